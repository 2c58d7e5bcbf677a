import Derived.Test.YthhijfphfcmniaaGreatOf
import Derived.Test.YthhijfphfcmniaaGreatOg
import Derived.Deep.RegionHeld3
import Derived.Deep.RegionWith
import Derived.Deep.MidRow
import Derived.Deep.Cut
import Derived.Test.YthhijfphfcmniaaGreatAk
import Derived.Test.YthhijfphfcmniaaGreatAh
import Derived.Test.YthhijfphfcmniaaGreatXi
import Derived.Test.YthhijfphfcmniaaGreatJA
import Derived.Test.YthhijfphfcmniaaGreatAf
namespace Go.Proofs.YthhijfphfcmniaaGreat
section
open Go Go.RowKit
set_option linter.unusedVariables false
set_option linter.unusedSimpArgs false

set_option maxRecDepth 100000 in
set_option maxHeartbeats 2000000 in
theorem roenc_no (f : Int) (m : Bool) (a b c d : Nat) (w : World) (ha : a < 18446744073709551616) (hb : b < 18446744073709551616) (hc : c < 18446744073709551616) (hd : d < 18446744073709551616) (h : rgt f m a b c d = false) :
    Calls Tryz.prog 111 #[ov f m a b c d] w fun e w' => e = .returned (.tuple #[.slice none 0 0, .int .i64 1]) ∧ Below w.heap.size w w' := by
  have A0 := hide_ (AB.at0 w 59 [.int .i64 f, .bool m, .int .u64 (a : Int), .int .u64 (b : Int), .int .u64 (c : Int), .int .u64 (d : Int)])
  have B0 := hide_ (below1 w (.cells #[.int .i64 f, .bool m, .int .u64 (a : Int), .int .u64 (b : Int), .int .u64 (c : Int), .int .u64 (d : Int)] 59))
  have q1 := fun w => roright_any f m a b c d w ha hb hc hd
  rw [h] at q1
  have q1 := hide_ q1
  obtain ⟨c0, c1, c2, c3, c4, c5, -⟩ := A0.out.six
  unfold ov at *
  clear ha hb hc hd h
  go_enter Tryz.func111, Tryz.ntmps111
  go_wp2_with (go_at_call 132; refine (q1.out _).mono ?_; rintro e w1 ⟨rfl, b1⟩)
  go_ret2
  exact ⟨rfl, B0.out.trans (b1.mono B0.out.size)⟩

set_option maxRecDepth 100000 in
set_option maxHeartbeats 4000000 in
theorem roenc_yes0 (f : Int) (a b c d : Nat) (w : World) (ha : a < 18446744073709551616) (hb : b < 18446744073709551616) (hc : c < 18446744073709551616) (hd : d < 18446744073709551616) (h : rgt f false a b c d = true) :
    Calls Tryz.prog 111 #[ov f false a b c d] w fun e w' => ∃ r, e = .returned (.tuple #[r, .int .i64 0]) ∧ Bytes w' r (encL f false a b c d) ∧ Below w.heap.size w w' := by
  have hf := rgt_fok h
  have A0 := hide_ (AB.at0 w 59 [.int .i64 f, .bool false, .int .u64 (a : Int), .int .u64 (b : Int), .int .u64 (c : Int), .int .u64 (d : Int)])
  have B0 := hide_ (below1 w (.cells #[.int .i64 f, .bool false, .int .u64 (a : Int), .int .u64 (b : Int), .int .u64 (c : Int), .int .u64 (d : Int)] 59))
  have q1 := fun w => roright_any f false a b c d w ha hb hc hd
  rw [h] at q1
  have q1 := hide_ q1
  have q2 := hide_ (fun w => rfid_any f w)
  have q4 := hide_ (fun w => rfsize_any f w)
  have hs := fsize_le f
  obtain ⟨hx1, hx2⟩ := fid_range f hf
  have p1 := hide_ (fun w => rnput_any (.slice none 0 0) [] 32768 2 w (Bytes.nil w) (by simp) (by decide) (isB_spl2 _))
  have e1 : kind f false = 2 * fid f := rfl
  have e2 : foll f false = (fsize f : Int) := rfl
  have p2 : Hid (∀ v w, Bytes w v ([] ++ spl 32768 2) → Calls Tryz.prog 36 #[v, .int .i64 (2 * fid f), .int .i64 1] w fun e w' => ∃ r, e = .returned r ∧ Bytes w' r ([] ++ spl 32768 2 ++ spl (kind f false) 1) ∧ Below w.heap.size w w') := hide_ (fun v w hB => by
    rw [← e1]
    exact rnput_any v _ (kind f false) 1 w hB (by simp [spl_len2]) (enc_bound1 f false hf) (isB_spl1 _))
  have p3 : Hid (∀ v w, Bytes w v ([] ++ spl 32768 2 ++ spl (kind f false) 1) → Calls Tryz.prog 36 #[v, .int .i64 ((fsize f : Int)), .int .i64 1] w fun e w' => ∃ r, e = .returned r ∧ Bytes w' r ([] ++ spl 32768 2 ++ spl (kind f false) 1 ++ spl (foll f false) 1) ∧ Below w.heap.size w w') := hide_ (fun v w hB => by
    rw [← e2]
    exact rnput_any v _ (foll f false) 1 w hB (by simp [spl_len2, spl_len1]) (enc_bound2 f false) (isB_spl1 _))
  have p4 := hide_ (fun v w hB => rwput_any v ([] ++ spl 32768 2 ++ spl (kind f false) 1 ++ spl (foll f false) 1) a b (fsize f : Int) w hB (by simp [spl_len2, spl_len1]) ha hb)
  have p5 := hide_ (fun v w hB => rwput_any v ([] ++ spl 32768 2 ++ spl (kind f false) 1 ++ spl (foll f false) 1 ++ wtail a b (fsize f : Int)) c d (fsize f : Int) w hB (by simp [spl_len2, spl_len1, wtail_length]; have := cl_le (fsize f : Int) 16; omega) hc hd)
  have HL : Hid ([] ++ spl 32768 2 ++ spl (kind f false) 1 ++ spl (foll f false) 1 ++ wtail a b (fsize f : Int) = encL f false a b c d) := hide_ (by simp [encL])
  clear e1 e2
  generalize encL f false a b c d = L at *
  generalize [] ++ spl 32768 2 ++ spl (kind f false) 1 ++ spl (foll f false) 1 ++ wtail a b (fsize f : Int) ++ wtail c d (fsize f : Int) = L5 at *
  generalize [] ++ spl 32768 2 ++ spl (kind f false) 1 ++ spl (foll f false) 1 ++ wtail a b (fsize f : Int) = L4 at *
  generalize [] ++ spl 32768 2 ++ spl (kind f false) 1 ++ spl (foll f false) 1 = L3 at *
  generalize [] ++ spl 32768 2 ++ spl (kind f false) 1 = L2 at *
  generalize [] ++ spl 32768 2 = L1 at *
  generalize fid f = x at *
  generalize fsize f = s at *
  have hw1 : IntKind.i64.wrap (2 * x) = 2 * x := by rw [IntKind.wrap_i64]; omega
  have hw2 : IntKind.i64.wrap (2 * x + 1) = 2 * x + 1 := by rw [IntKind.wrap_i64]; omega
  have hw3 : IntKind.i64.wrap (2 * (s : Int)) = 2 * (s : Int) := by rw [IntKind.wrap_i64]; omega
  obtain ⟨c0, c1, c2, c3, c4, c5, -⟩ := A0.out.six
  unfold ov at *
  unfold wd at p4 p5
  clear ha hb hc hd h hf
  go_enter Tryz.func111, Tryz.ntmps111
  go_wp2_with (first | (go_at_call 132; refine (q1.out _).mono ?_; rintro e w1 ⟨rfl, k1⟩; obtain ⟨y10, y11, y12, y13, y14, y15, -⟩ := (A0.out.later k1).six) | (go_at_call 134; refine (q4.out _).mono ?_; rintro e w9 ⟨rfl, rfl⟩) | (go_at_call 135; refine (q2.out _).mono ?_; rintro e w9 ⟨rfl, rfl⟩) | (go_at_call_of 36 (Value.int IntKind.i64 32768); refine (p1.out _).mono ?_; rintro e w3 ⟨r1, rfl, h1, b3⟩; have h1 := hide_ h1; have k3 := k1.trans (b3.mono k1.size); obtain ⟨y30, y31, y32, y33, y34, y35, -⟩ := (A0.out.later k3).six) | (go_at_call_of 36 r1; refine (p2.out _ _ h1.out).mono ?_; rintro e w4 ⟨r2, rfl, h2, b4⟩; have h2 := hide_ h2; have k4 := k3.trans (b4.mono k3.size); obtain ⟨y40, y41, y42, y43, y44, y45, -⟩ := (A0.out.later k4).six) | (go_at_call_of 36 r2; refine (p3.out _ _ h2.out).mono ?_; rintro e w6 ⟨r3, rfl, h3, b6⟩; have h3 := hide_ h3; have k6 := k4.trans (b6.mono k4.size); obtain ⟨y60, y61, y62, y63, y64, y65, -⟩ := (A0.out.later k6).six) | (go_at_call 37; refine (p4.out _ _ h3.out).mono ?_; rintro e w8 ⟨r4, rfl, h8, b8⟩; have h8 := hide_ h8; have k8 := k6.trans (b8.mono k6.size)))
  go_ret2
  exact ⟨_, rfl, by rw [← HL.out]; exact h8.out, B0.out.trans (k8.mono B0.out.size)⟩

set_option maxRecDepth 100000 in
set_option maxHeartbeats 4000000 in
theorem roenc_yes1 (f : Int) (a b c d : Nat) (w : World) (ha : a < 18446744073709551616) (hb : b < 18446744073709551616) (hc : c < 18446744073709551616) (hd : d < 18446744073709551616) (h : rgt f true a b c d = true) :
    Calls Tryz.prog 111 #[ov f true a b c d] w fun e w' => ∃ r, e = .returned (.tuple #[r, .int .i64 0]) ∧ Bytes w' r (encL f true a b c d) ∧ Below w.heap.size w w' := by
  have hf := rgt_fok h
  have A0 := hide_ (AB.at0 w 59 [.int .i64 f, .bool true, .int .u64 (a : Int), .int .u64 (b : Int), .int .u64 (c : Int), .int .u64 (d : Int)])
  have B0 := hide_ (below1 w (.cells #[.int .i64 f, .bool true, .int .u64 (a : Int), .int .u64 (b : Int), .int .u64 (c : Int), .int .u64 (d : Int)] 59))
  have q1 := fun w => roright_any f true a b c d w ha hb hc hd
  rw [h] at q1
  have q1 := hide_ q1
  have q2 := hide_ (fun w => rfid_any f w)
  have q4 := hide_ (fun w => rfsize_any f w)
  have hs := fsize_le f
  obtain ⟨hx1, hx2⟩ := fid_range f hf
  have p1 := hide_ (fun w => rnput_any (.slice none 0 0) [] 32768 2 w (Bytes.nil w) (by simp) (by decide) (isB_spl2 _))
  have e1 : kind f true = 2 * fid f + 1 := rfl
  have e2 : foll f true = 2 * (fsize f : Int) := rfl
  have p2 : Hid (∀ v w, Bytes w v ([] ++ spl 32768 2) → Calls Tryz.prog 36 #[v, .int .i64 (2 * fid f + 1), .int .i64 1] w fun e w' => ∃ r, e = .returned r ∧ Bytes w' r ([] ++ spl 32768 2 ++ spl (kind f true) 1) ∧ Below w.heap.size w w') := hide_ (fun v w hB => by
    rw [← e1]
    exact rnput_any v _ (kind f true) 1 w hB (by simp [spl_len2]) (enc_bound1 f true hf) (isB_spl1 _))
  have p3 : Hid (∀ v w, Bytes w v ([] ++ spl 32768 2 ++ spl (kind f true) 1) → Calls Tryz.prog 36 #[v, .int .i64 (2 * (fsize f : Int)), .int .i64 1] w fun e w' => ∃ r, e = .returned r ∧ Bytes w' r ([] ++ spl 32768 2 ++ spl (kind f true) 1 ++ spl (foll f true) 1) ∧ Below w.heap.size w w') := hide_ (fun v w hB => by
    rw [← e2]
    exact rnput_any v _ (foll f true) 1 w hB (by simp [spl_len2, spl_len1]) (enc_bound2 f true) (isB_spl1 _))
  have p4 := hide_ (fun v w hB => rwput_any v ([] ++ spl 32768 2 ++ spl (kind f true) 1 ++ spl (foll f true) 1) a b (fsize f : Int) w hB (by simp [spl_len2, spl_len1]) ha hb)
  have p5 := hide_ (fun v w hB => rwput_any v ([] ++ spl 32768 2 ++ spl (kind f true) 1 ++ spl (foll f true) 1 ++ wtail a b (fsize f : Int)) c d (fsize f : Int) w hB (by simp [spl_len2, spl_len1, wtail_length]; have := cl_le (fsize f : Int) 16; omega) hc hd)
  have HL : Hid ([] ++ spl 32768 2 ++ spl (kind f true) 1 ++ spl (foll f true) 1 ++ wtail a b (fsize f : Int) ++ wtail c d (fsize f : Int) = encL f true a b c d) := hide_ (by simp [encL])
  clear e1 e2
  generalize encL f true a b c d = L at *
  generalize [] ++ spl 32768 2 ++ spl (kind f true) 1 ++ spl (foll f true) 1 ++ wtail a b (fsize f : Int) ++ wtail c d (fsize f : Int) = L5 at *
  generalize [] ++ spl 32768 2 ++ spl (kind f true) 1 ++ spl (foll f true) 1 ++ wtail a b (fsize f : Int) = L4 at *
  generalize [] ++ spl 32768 2 ++ spl (kind f true) 1 ++ spl (foll f true) 1 = L3 at *
  generalize [] ++ spl 32768 2 ++ spl (kind f true) 1 = L2 at *
  generalize [] ++ spl 32768 2 = L1 at *
  generalize fid f = x at *
  generalize fsize f = s at *
  have hw1 : IntKind.i64.wrap (2 * x) = 2 * x := by rw [IntKind.wrap_i64]; omega
  have hw2 : IntKind.i64.wrap (2 * x + 1) = 2 * x + 1 := by rw [IntKind.wrap_i64]; omega
  have hw3 : IntKind.i64.wrap (2 * (s : Int)) = 2 * (s : Int) := by rw [IntKind.wrap_i64]; omega
  obtain ⟨c0, c1, c2, c3, c4, c5, -⟩ := A0.out.six
  unfold ov at *
  unfold wd at p4 p5
  clear ha hb hc hd h hf
  go_enter Tryz.func111, Tryz.ntmps111
  go_wp2_with (first | (go_at_call 132; refine (q1.out _).mono ?_; rintro e w1 ⟨rfl, k1⟩; obtain ⟨y10, y11, y12, y13, y14, y15, -⟩ := (A0.out.later k1).six) | (go_at_call 134; refine (q4.out _).mono ?_; rintro e w9 ⟨rfl, rfl⟩) | (go_at_call 135; refine (q2.out _).mono ?_; rintro e w9 ⟨rfl, rfl⟩) | (go_at_call_of 36 (Value.int IntKind.i64 32768); refine (p1.out _).mono ?_; rintro e w3 ⟨r1, rfl, h1, b3⟩; have h1 := hide_ h1; have k3 := k1.trans (b3.mono k1.size); obtain ⟨y30, y31, y32, y33, y34, y35, -⟩ := (A0.out.later k3).six) | (go_at_call_of 36 r1; refine (p2.out _ _ h1.out).mono ?_; rintro e w4 ⟨r2, rfl, h2, b4⟩; have h2 := hide_ h2; have k4 := k3.trans (b4.mono k3.size); obtain ⟨y40, y41, y42, y43, y44, y45, -⟩ := (A0.out.later k4).six) | (go_at_call_of 36 r2; refine (p3.out _ _ h2.out).mono ?_; rintro e w6 ⟨r3, rfl, h3, b6⟩; have h3 := hide_ h3; have k6 := k4.trans (b6.mono k4.size); obtain ⟨y60, y61, y62, y63, y64, y65, -⟩ := (A0.out.later k6).six))
  clear y10 y11 y12 y13 y14 y15 y30 y31 y32 y33 y34 y35 y40 y41 y42 y43 y44 y45
  go_region_held3 (fun w' => w'.cell? ⟨w.heap.size, 2, none⟩ = some (.int .u64 (a : Int)) ∧ w'.cell? ⟨w.heap.size, 3, none⟩ = some (.int .u64 (b : Int)) ∧ w'.cell? ⟨w.heap.size, 4, none⟩ = some (.int .u64 (c : Int)) ∧ w'.cell? ⟨w.heap.size, 5, none⟩ = some (.int .u64 (d : Int)) ∧ Below w6.heap.size w6 w')
    (first | (with_reducible exact kN4 b8 (by assumption)) | (with_reducible exact kN4 b7 (by assumption)) | (exact ⟨y62, y63, y64, y65, (Below.refl _ _).drew⟩))
    (first | (go_at_call_of 37 r3; refine (p4.out _ _ (h3.out.later (Below.refl _ _).drew)).mono ?_; rintro e w7 ⟨r4, rfl, h7, b7⟩; have h7 := hide_ h7) | (go_at_call_of 37 r4; refine (p5.out _ _ h7.out).mono ?_; rintro e w8 ⟨r5, rfl, h8, b8⟩; have h8 := hide_ h8))
  rename_i hH
  have j8 := hH.2.2.2.2
  clear hH
  have k8 := k6.trans (j8.mono k6.size)
  go_wp2_with fail
  go_ret2
  exact ⟨_, rfl, by rw [← HL.out]; exact h8.out, B0.out.trans (k8.mono B0.out.size)⟩
end

section
open Go Go.RowKit
set_option linter.unusedVariables false
set_option linter.unusedSimpArgs false

theorem rput_own (v : Value) (l : List Int) (n s : Int) (w : World) (hB : Bytes w v l) (hl : l.length ≤ 1000) (hr : rightB n s = true) (hs : isB (spl n s)) :
    Calls Tryz.prog 36 #[v, .int .i64 n, .int .i64 s] w fun e w' => ∃ r, e = .returned r ∧ OwnB w' w.heap.size r (l ++ spl n s) ∧ Below w.heap.size w w' :=
  (rput_any v l n s w hB (by omega) hr).mono fun e w' ⟨r, h1, h2, h3⟩ => ⟨r, h1, ⟨h2, by
    obtain ⟨_, _, _, _, _, hb, _⟩ := hB
    exact hb.app hs⟩, h3⟩
theorem rwput_own (v : Value) (l : List Int) (a b : Nat) (size : Int) (w : World) (hB : Bytes w v l) (hl : l.length ≤ 1000) (ha : a < 18446744073709551616) (hb : b < 18446744073709551616) :
    Calls Tryz.prog 37 #[v, wd a b, .int .i64 size] w fun e w' => ∃ r, e = .returned r ∧ OwnB w' w.heap.size r (l ++ wtail a b size) ∧ Below w.heap.size w w' := by
  have hcl := cl_le size 16
  have hlen := wtail_length a b size
  have hBt : isB (wtail a b size) := fun z hz => w16_isB a b ha hb z (List.mem_of_mem_drop hz)
  have hall := hB.isB_.app hBt
  refine (rwput_core v l (wtail a b size) a b size (cl size 16) w hB (by omega) hcl hlen (by show _ = _; unfold cl; omega) (fun m hm w => ?_)).mono fun e w' ⟨r, he, ho, hb⟩ => ⟨r, he, ⟨?_, hall⟩, hb⟩
  · refine (part_any a b m w ha hb (by omega)).mono fun e w' ⟨z, hz, he, hb⟩ => ⟨z, ?_, he, hb⟩
    unfold wtail
    rw [List.getElem?_drop, show 16 - cl size 16 + (cl size 16 - (m + 1)) = 15 - m by omega]
    exact hz
  · rw [List.length_append, hlen]
    exact ho
theorem bytes_lit (w : World) (l : List Int) (hl : isB l) (hm : l.length ≤ 1000) : Bytes (w.alloc (.cells (u8s l).toArray 5)) (.slice (some ⟨w.heap.size, 0, none⟩) l.length l.length) l := by
  refine ⟨some ⟨w.heap.size, 0, none⟩, l.length, rfl, Nat.le_refl _, by unfold maxLen; omega, hl, (fun h => by cases h), fun ad hd j z hz => ?_⟩
  cases hd
  rw [Addr.add_lit, Nat.zero_add, World.cell?_alloc_new]
  simp [u8s, hz]
theorem formB {w' : World} {e : Ending} {L : List Int} {b : Prop} {n : Nat} (hn : L.length = n) (h : ∃ r, e = .returned r ∧ Bytes w' r L ∧ b) : ∃ ao cap, e = .returned (.slice ao n cap) ∧ Bytes w' (.slice ao n cap) L ∧ b := by
  obtain ⟨r, rfl, ⟨ao, cap, rfl, h1⟩, hb⟩ := h
  subst hn
  exact ⟨ao, cap, rfl, ⟨ao, cap, rfl, h1⟩, hb⟩
theorem OwnB.lit {w w' : World} {base n : Nat} {v v' : Value} {l m : List Int} (h : OwnB w base v l) (hm : isB m) (hn : l.length = n) (ho : w'.ownsRow base 5 1 v' (n + m.length) (u8s l ++ u8s m)) : OwnB w' base v' (l ++ m) := by
  subst hn
  exact h.grow hm ho
theorem OwnB.isB_ {w : World} {base : Nat} {v : Value} {l : List Int} (h : OwnB w base v l) : isB l := h.2
def slen : Value → Nat | .slice _ n _ => n | _ => 0
theorem aenc_list2 (k p x q y f : Int) (m : Bool) (a b c d : Nat) (n : Nat) (hn : 4 + (bodyL k p x q y f m a b c d).length = n) :
    [] ++ spl k 2 ++ spl ((r8 n : Nat) : Int) 2 ++ (bodyL k p x q y f m a b c d ++ List.replicate (r8 n - n) 0) = aencL k p x q y f m a b c d := by
  subst hn
  unfold aencL
  simp

set_option maxRecDepth 100000 in
set_option maxHeartbeats 4000000 in
theorem roenc_own0 (f : Int) (a b c d : Nat) (w : World) (ha : a < 18446744073709551616) (hb : b < 18446744073709551616) (hc : c < 18446744073709551616) (hd : d < 18446744073709551616) (h : rgt f false a b c d = true) :
    Calls Tryz.prog 111 #[ov f false a b c d] w fun e w' => ∃ r, e = .returned (.tuple #[r, .int .i64 0]) ∧ OwnB w' w.heap.size r (encL f false a b c d) ∧ Below w.heap.size w w' := by
  have hf := rgt_fok h
  have A0 := hide_ (AB.at0 w 59 [.int .i64 f, .bool false, .int .u64 (a : Int), .int .u64 (b : Int), .int .u64 (c : Int), .int .u64 (d : Int)])
  have B0 := hide_ (below1 w (.cells #[.int .i64 f, .bool false, .int .u64 (a : Int), .int .u64 (b : Int), .int .u64 (c : Int), .int .u64 (d : Int)] 59))
  have q1 := fun w => roright_any f false a b c d w ha hb hc hd
  rw [h] at q1
  have q1 := hide_ q1
  have q2 := hide_ (fun w => rfid_any f w)
  have q4 := hide_ (fun w => rfsize_any f w)
  have hs := fsize_le f
  obtain ⟨hx1, hx2⟩ := fid_range f hf
  have p1 := hide_ (fun w => rnput_any (.slice none 0 0) [] 32768 2 w (Bytes.nil w) (by simp) (by decide) (isB_spl2 _))
  have e1 : kind f false = 2 * fid f := rfl
  have e2 : foll f false = (fsize f : Int) := rfl
  have p2 : Hid (∀ v w, Bytes w v ([] ++ spl 32768 2) → Calls Tryz.prog 36 #[v, .int .i64 (2 * fid f), .int .i64 1] w fun e w' => ∃ r, e = .returned r ∧ Bytes w' r ([] ++ spl 32768 2 ++ spl (kind f false) 1) ∧ Below w.heap.size w w') := hide_ (fun v w hB => by
    rw [← e1]
    exact rnput_any v _ (kind f false) 1 w hB (by simp [spl_len2]) (enc_bound1 f false hf) (isB_spl1 _))
  have p3 : Hid (∀ v w, Bytes w v ([] ++ spl 32768 2 ++ spl (kind f false) 1) → Calls Tryz.prog 36 #[v, .int .i64 ((fsize f : Int)), .int .i64 1] w fun e w' => ∃ r, e = .returned r ∧ Bytes w' r ([] ++ spl 32768 2 ++ spl (kind f false) 1 ++ spl (foll f false) 1) ∧ Below w.heap.size w w') := hide_ (fun v w hB => by
    rw [← e2]
    exact rnput_any v _ (foll f false) 1 w hB (by simp [spl_len2, spl_len1]) (enc_bound2 f false) (isB_spl1 _))
  have p4 := hide_ (fun v w hB => rwput_own v ([] ++ spl 32768 2 ++ spl (kind f false) 1 ++ spl (foll f false) 1) a b (fsize f : Int) w hB (by simp [spl_len2, spl_len1]) ha hb)
  have p5 := hide_ (fun v w hB => rwput_own v ([] ++ spl 32768 2 ++ spl (kind f false) 1 ++ spl (foll f false) 1 ++ wtail a b (fsize f : Int)) c d (fsize f : Int) w hB (by simp [spl_len2, spl_len1, wtail_length]; have := cl_le (fsize f : Int) 16; omega) hc hd)
  have HL : Hid ([] ++ spl 32768 2 ++ spl (kind f false) 1 ++ spl (foll f false) 1 ++ wtail a b (fsize f : Int) = encL f false a b c d) := hide_ (by simp [encL])
  clear e1 e2
  generalize encL f false a b c d = L at *
  generalize [] ++ spl 32768 2 ++ spl (kind f false) 1 ++ spl (foll f false) 1 ++ wtail a b (fsize f : Int) ++ wtail c d (fsize f : Int) = L5 at *
  generalize [] ++ spl 32768 2 ++ spl (kind f false) 1 ++ spl (foll f false) 1 ++ wtail a b (fsize f : Int) = L4 at *
  generalize [] ++ spl 32768 2 ++ spl (kind f false) 1 ++ spl (foll f false) 1 = L3 at *
  generalize [] ++ spl 32768 2 ++ spl (kind f false) 1 = L2 at *
  generalize [] ++ spl 32768 2 = L1 at *
  generalize fid f = x at *
  generalize fsize f = s at *
  have hw1 : IntKind.i64.wrap (2 * x) = 2 * x := by rw [IntKind.wrap_i64]; omega
  have hw2 : IntKind.i64.wrap (2 * x + 1) = 2 * x + 1 := by rw [IntKind.wrap_i64]; omega
  have hw3 : IntKind.i64.wrap (2 * (s : Int)) = 2 * (s : Int) := by rw [IntKind.wrap_i64]; omega
  obtain ⟨c0, c1, c2, c3, c4, c5, -⟩ := A0.out.six
  unfold ov at *
  unfold wd at p4 p5
  clear ha hb hc hd h hf
  go_enter Tryz.func111, Tryz.ntmps111
  go_wp2_with (first | (go_at_call 132; refine (q1.out _).mono ?_; rintro e w1 ⟨rfl, k1⟩; obtain ⟨y10, y11, y12, y13, y14, y15, -⟩ := (A0.out.later k1).six) | (go_at_call 134; refine (q4.out _).mono ?_; rintro e w9 ⟨rfl, rfl⟩) | (go_at_call 135; refine (q2.out _).mono ?_; rintro e w9 ⟨rfl, rfl⟩) | (go_at_call_of 36 (Value.int IntKind.i64 32768); refine (p1.out _).mono ?_; rintro e w3 ⟨r1, rfl, h1, b3⟩; have h1 := hide_ h1; have k3 := k1.trans (b3.mono k1.size); obtain ⟨y30, y31, y32, y33, y34, y35, -⟩ := (A0.out.later k3).six) | (go_at_call_of 36 r1; refine (p2.out _ _ h1.out).mono ?_; rintro e w4 ⟨r2, rfl, h2, b4⟩; have h2 := hide_ h2; have k4 := k3.trans (b4.mono k3.size); obtain ⟨y40, y41, y42, y43, y44, y45, -⟩ := (A0.out.later k4).six) | (go_at_call_of 36 r2; refine (p3.out _ _ h2.out).mono ?_; rintro e w6 ⟨r3, rfl, h3, b6⟩; have h3 := hide_ h3; have k6 := k4.trans (b6.mono k4.size); obtain ⟨y60, y61, y62, y63, y64, y65, -⟩ := (A0.out.later k6).six) | (go_at_call 37; refine (p4.out _ _ h3.out).mono ?_; rintro e w8 ⟨r4, rfl, h8, b8⟩; have h8 := hide_ h8; have k8 := k6.trans (b8.mono k6.size)))
  go_ret2
  exact ⟨_, rfl, by rw [← HL.out]; exact h8.out.mono (Nat.le_trans B0.out.size k6.size), B0.out.trans (k8.mono B0.out.size)⟩

set_option maxRecDepth 100000 in
set_option maxHeartbeats 4000000 in
theorem raenc_no (k p x q y f : Int) (m : Bool) (a b c d : Nat) (w : World) (ha : a < 18446744073709551616) (hb : b < 18446744073709551616) (hc : c < 18446744073709551616) (hd : d < 18446744073709551616) (h : art k p x q y f m a b c d = false) :
    Calls Tryz.prog 75 #[av k p x q y f m a b c d] w fun e w' => e = .returned (.tuple #[.slice none 0 0, .int .i64 1]) ∧ Below w.heap.size w w' := by
  have B0 := hide_ (below1 w (.cells #[.int .i64 k, .int .i64 p, .int .i64 x, .int .i64 q, .int .i64 y, .int .i64 f, .bool m, .int .u64 (a : Int), .int .u64 (b : Int), .int .u64 (c : Int), .int .u64 (d : Int)] 61))
  have q1 := fun w => raright_any k p x q y f m a b c d w ha hb hc hd
  rw [h] at q1
  have q1 := hide_ q1
  unfold av at *
  clear ha hb hc hd h
  go_enter Tryz.func75, Tryz.ntmps75
  go_wp2_with (go_at_call 110; refine (q1.out _).mono ?_; rintro e w1 ⟨rfl, b1⟩)
  go_ret2
  exact ⟨rfl, B0.out.trans (b1.mono B0.out.size)⟩

set_option maxRecDepth 100000 in
set_option maxHeartbeats 4000000 in
theorem raenc_22 (p x q y f : Int) (m : Bool) (a b c d : Nat) (w : World) (ha : a < 18446744073709551616) (hb : b < 18446744073709551616) (hc : c < 18446744073709551616) (hd : d < 18446744073709551616) (h : art 22 p x q y f m a b c d = true) :
    Calls Tryz.prog 75 #[av 22 p x q y f m a b c d] w fun e w' => ∃ r, e = .returned (.tuple #[r, .int .i64 0]) ∧ Bytes w' r (aencL 22 p x q y f m a b c d) ∧ Below w.heap.size w w' := by
  obtain ⟨g1, g2⟩ := art_22 h
  have pq := hide_ (fun w => (rnput_any (.slice none 0 0) [] q 4 w (Bytes.nil w) (by simp) (rightB_in4 g1 (by omega)) (isB_spl4 g1 (by omega))).mono (fun e w' h => formB (n := 4) (by simp [spl_len4]) h))
  have hBL : Hid (isB ([] ++ spl q 4)) := hide_ (isB_spl4 g1 (by omega))
  have hbl : ([] ++ spl q 4).length = 4 := by simp [spl_len4]
  have HLL : Hid ([] ++ spl 22 2 ++ spl 8 2 ++ ([] ++ spl q 4) = aencL 22 p x q y f m a b c d) := hide_ (by simp [aencL, bodyL, spl_len4, r8])
  have A0 := hide_ (AB.at0 w 61 [.int .i64 22, .int .i64 p, .int .i64 x, .int .i64 q, .int .i64 y, .int .i64 f, .bool m, .int .u64 (a : Int), .int .u64 (b : Int), .int .u64 (c : Int), .int .u64 (d : Int)])
  have B0 := hide_ (below1 w (.cells #[.int .i64 22, .int .i64 p, .int .i64 x, .int .i64 q, .int .i64 y, .int .i64 f, .bool m, .int .u64 (a : Int), .int .u64 (b : Int), .int .u64 (c : Int), .int .u64 (d : Int)] 61))
  have q1 := fun w => raright_any 22 p x q y f m a b c d w ha hb hc hd
  rw [h] at q1
  have q1 := hide_ q1
  have p1 := hide_ (fun w => rnput_any (.slice none 0 0) [] 22 2 w (Bytes.nil w) (by simp) (by decide) (isB_spl2 _))
  have p2 := hide_ (fun v w hB => rput_own v ([] ++ spl 22 2) 8 2 w hB (by simp [spl_len2]) (by decide) (isB_spl2 _))
  have hL0 : ([] ++ spl 22 2 ++ spl 8 2).length = 4 := by simp [spl_len2]
  obtain ⟨i0, hi0, hz0, hz1, hz2⟩ := info_parts info5
  have HI : Hid (Tryz.prog.info? 5 = some i0 ∧ i0.zero = some (.int .u8 0) ∧ i0.size = 1 ∧ i0.bytes = 1) := ⟨hi0, hz0, hz1, hz2⟩
  clear hi0 hz0 hz1 hz2 h
  generalize aencL 22 p x q y f m a b c d = LL at *
  generalize [] ++ spl q 4 = BL at *
  generalize [] ++ spl 22 2 ++ spl 8 2 = L0 at *
  generalize [] ++ spl 22 2 = L1 at *
  unfold av at *
  clear ha hb hc hd g1 g2
  go_enter Tryz.func75, Tryz.ntmps75
  go_wp2_with (first | (go_at_call 110; refine (q1.out _).mono ?_; rintro e w1 ⟨rfl, k1⟩; have k1 : Below (w.alloc (.cells #[.int .i64 22, .int .i64 p, .int .i64 x, .int .i64 q, .int .i64 y, .int .i64 f, .bool m, .int .u64 (a : Int), .int .u64 (b : Int), .int .u64 (c : Int), .int .u64 (d : Int)] 61)).heap.size (w.alloc (.cells #[.int .i64 22, .int .i64 p, .int .i64 x, .int .i64 q, .int .i64 y, .int .i64 f, .bool m, .int .u64 (a : Int), .int .u64 (b : Int), .int .u64 (c : Int), .int .u64 (d : Int)] 61)) (w1.alloc (.cells #[] 5)) := k1.trans ((below1 w1 (.cells #[] 5)).mono k1.size); obtain ⟨y0, y1, y2, y3, y4, y5, y6, y7, y8, y9, y10, -⟩ := (A0.out.later k1).eleven) | (go_at_call_of 36 (Value.int IntKind.i64 4); refine (pq.out _).mono ?_; rintro e w2 ⟨bo, bc, rfl, hb2, b2⟩; have kb := k1.trans (b2.mono k1.size); have hb2 := hide_ hb2; obtain ⟨z0, z1, z2, z3, z4, z5, z6, z7, z8, z9, z10, -⟩ := (A0.out.later kb).eleven) | (go_at_call_of 36 (Value.slice none 0 0); refine (p1.out _).mono ?_; rintro e w5 ⟨r5, rfl, h5, b5⟩; have k5 := kb.trans (b5.mono kb.size); have h5 := hide_ h5) | (go_at_call 36; refine (p2.out _ _ h5.out).mono ?_; rintro e w6 ⟨r6, rfl, h6, b6⟩; have k6 := k5.trans (b6.mono k5.size); have h6 := hide_ h6) | (at_builtin; refine wpList_append_ownB rfl (.tmp 57) (.tmp 58) 25 rfl w5.heap.size 5 i0 Tryz.underlying25 HI.out.1 HI.out.2.1 HI.out.2.2.1 HI.out.2.2.2 r6 L0.length (u8s L0) (by simp [Act.eval, Act.put]) h6.out.1 (.slice bo 4 bc) BL (by simp [Act.eval, Act.put]) ((hb2.out.later b5).later b6) (by omega) b6.size ?_; intro v7 w7 own7 hg7; have b7 := h6.out.growB hg7 (Nat.le_trans B0.out.size k5.size) (Nat.le_trans B0.out.size k6.size); have O7 := hide_ (h6.out.grow hBL.out own7)))
  go_ret2
  refine ⟨_, rfl, ?_, (B0.out.trans (k6.mono B0.out.size)).trans b7⟩
  rw [← HLL.out]
  exact O7.out.bytes

set_option maxRecDepth 100000 in
set_option maxHeartbeats 4000000 in
theorem raenc_17 (p x q y f : Int) (m : Bool) (a b c d : Nat) (w : World) (ha : a < 18446744073709551616) (hb : b < 18446744073709551616) (hc : c < 18446744073709551616) (hd : d < 18446744073709551616) (h : art 17 p x q y f m a b c d = true) :
    Calls Tryz.prog 75 #[av 17 p x q y f m a b c d] w fun e w' => ∃ r, e = .returned (.tuple #[r, .int .i64 0]) ∧ Bytes w' r (aencL 17 p x q y f m a b c d) ∧ Below w.heap.size w w' := by
  have g1 := art_17 h
  have pq := hide_ (fun w => rput_own (.slice none 0 0) [] y 2 w (Bytes.nil w) (by simp) (rightB_in2 (by omega) (by omega)) (isB_spl2 _))
  have hBL : Hid (isB ([] ++ spl y 2 ++ [0, 0])) := hide_ ((isB_spl2 y).app (isB_zeros 2))
  have hbl : ([] ++ spl y 2 ++ [0, 0]).length = 4 := by simp [spl_len2]
  have hyl : ([] ++ spl y 2).length = 2 := by simp [spl_len2]
  have HLL : Hid ([] ++ spl 17 2 ++ spl 8 2 ++ ([] ++ spl y 2 ++ [0, 0]) = aencL 17 p x q y f m a b c d) := hide_ (by simp [aencL, bodyL, spl_len2, r8])
  have A0 := hide_ (AB.at0 w 61 [.int .i64 17, .int .i64 p, .int .i64 x, .int .i64 q, .int .i64 y, .int .i64 f, .bool m, .int .u64 (a : Int), .int .u64 (b : Int), .int .u64 (c : Int), .int .u64 (d : Int)])
  have B0 := hide_ (below1 w (.cells #[.int .i64 17, .int .i64 p, .int .i64 x, .int .i64 q, .int .i64 y, .int .i64 f, .bool m, .int .u64 (a : Int), .int .u64 (b : Int), .int .u64 (c : Int), .int .u64 (d : Int)] 61))
  have q1 := fun w => raright_any 17 p x q y f m a b c d w ha hb hc hd
  rw [h] at q1
  have q1 := hide_ q1
  have p1 := hide_ (fun w => rnput_any (.slice none 0 0) [] 17 2 w (Bytes.nil w) (by simp) (by decide) (isB_spl2 _))
  have p2 := hide_ (fun v w hB => rput_own v ([] ++ spl 17 2) 8 2 w hB (by simp [spl_len2]) (by decide) (isB_spl2 _))
  have hL0 : ([] ++ spl 17 2 ++ spl 8 2).length = 4 := by simp [spl_len2]
  obtain ⟨i0, hi0, hz0, hz1, hz2⟩ := info_parts info5
  have HI : Hid (Tryz.prog.info? 5 = some i0 ∧ i0.zero = some (.int .u8 0) ∧ i0.size = 1 ∧ i0.bytes = 1) := ⟨hi0, hz0, hz1, hz2⟩
  clear hi0 hz0 hz1 hz2 h
  generalize aencL 17 p x q y f m a b c d = LL at *
  generalize [] ++ spl y 2 = YL at *
  generalize [] ++ spl 17 2 ++ spl 8 2 = L0 at *
  generalize [] ++ spl 17 2 = L1 at *
  unfold av at *
  clear ha hb hc hd g1
  go_enter Tryz.func75, Tryz.ntmps75
  go_wp2_with (first | (go_at_call 110; refine (q1.out _).mono ?_; rintro e w1 ⟨rfl, k1⟩; have k1 : Below (w.alloc (.cells #[.int .i64 17, .int .i64 p, .int .i64 x, .int .i64 q, .int .i64 y, .int .i64 f, .bool m, .int .u64 (a : Int), .int .u64 (b : Int), .int .u64 (c : Int), .int .u64 (d : Int)] 61)).heap.size (w.alloc (.cells #[.int .i64 17, .int .i64 p, .int .i64 x, .int .i64 q, .int .i64 y, .int .i64 f, .bool m, .int .u64 (a : Int), .int .u64 (b : Int), .int .u64 (c : Int), .int .u64 (d : Int)] 61)) (w1.alloc (.cells #[] 5)) := k1.trans ((below1 w1 (.cells #[] 5)).mono k1.size); obtain ⟨y0, y1, y2, y3, y4, y5, y6, y7, y8, y9, y10, -⟩ := (A0.out.later k1).eleven) | (go_at_call_of 36 (Value.int IntKind.i64 y); refine (pq.out _).mono ?_; rintro e w2 ⟨ry, rfl, hy, b2⟩; have k2 := k1.trans (b2.mono k1.size); have hy := hide_ hy) | (at_builtin; refine wpList_append_lit (.tmp 30) (.tmp 31) 25 rfl 5 i0 Tryz.underlying25 HI.out.1 HI.out.2.1 HI.out.2.2.1 HI.out.2.2.2 (w1.heap.size + 1) ry YL.length (u8s YL) (by simp [Act.eval, Act.put]) w2 (by have := hy.out.1; simpa using this) [0, 0] _ rfl 2 rfl (by simp [Act.eval, Act.put]) (by simp [Region.wanted]) (by simp; omega) (by have := b2.size; simpa using this) ?_; intro v3 w3 own3 b3; have O3 := hide_ ((hy.out.mono (by simp)).lit (isB_zeros 2) rfl own3 : OwnB w3 (w1.heap.size + 1) v3 (YL ++ [0, 0])); obtain ⟨bg, bc, e3, -⟩ := O3.out.form (by rw [hbl]; omega); rw [hbl] at e3; subst e3; have hb2 := hide_ O3.out.bytes; have b3 : Below (w.alloc (.cells #[.int .i64 17, .int .i64 p, .int .i64 x, .int .i64 q, .int .i64 y, .int .i64 f, .bool m, .int .u64 (a : Int), .int .u64 (b : Int), .int .u64 (c : Int), .int .u64 (d : Int)] 61)).heap.size w2 w3 := b3.mono (by have := k1.size; simpa using this); have kb := k2.trans b3; obtain ⟨z0, z1, z2, z3, z4, z5, z6, z7, z8, z9, z10, -⟩ := (A0.out.later kb).eleven) | (go_at_call_of 36 (Value.slice none 0 0); refine (p1.out _).mono ?_; rintro e w5 ⟨r5, rfl, h5, b5⟩; have k5 := kb.trans (b5.mono kb.size); have h5 := hide_ h5) | (go_at_call 36; refine (p2.out _ _ h5.out).mono ?_; rintro e w6 ⟨r6, rfl, h6, b6⟩; have k6 := k5.trans (b6.mono k5.size); have h6 := hide_ h6) | (at_builtin; refine wpList_append_ownB rfl (.tmp 57) (.tmp 58) 25 rfl w5.heap.size 5 i0 Tryz.underlying25 HI.out.1 HI.out.2.1 HI.out.2.2.1 HI.out.2.2.2 r6 L0.length (u8s L0) (by simp [Act.eval, Act.put]) h6.out.1 (.slice (some ⟨bg, 0, none⟩) 4 bc) (YL ++ [0, 0]) (by simp [Act.eval, Act.put]) ((hb2.out.later b5).later b6) (by omega) b6.size ?_; intro v7 w7 own7 hg7; have b7 := h6.out.growB hg7 (Nat.le_trans B0.out.size k5.size) (Nat.le_trans B0.out.size k6.size); have O7 := hide_ (h6.out.grow hBL.out own7)))
  go_ret2
  refine ⟨_, rfl, ?_, (B0.out.trans (k6.mono B0.out.size)).trans b7⟩
  rw [← HLL.out]
  exact O7.out.bytes

set_option maxRecDepth 100000 in
set_option maxHeartbeats 4000000 in
theorem raenc_18 (p x q y f : Int) (m : Bool) (a b c d : Nat) (w : World) (ha : a < 18446744073709551616) (hb : b < 18446744073709551616) (hc : c < 18446744073709551616) (hd : d < 18446744073709551616) (h : art 18 p x q y f m a b c d = true) :
    Calls Tryz.prog 75 #[av 18 p x q y f m a b c d] w fun e w' => ∃ r, e = .returned (.tuple #[r, .int .i64 0]) ∧ Bytes w' r (aencL 18 p x q y f m a b c d) ∧ Below w.heap.size w w' := by
  have hBL : Hid (isB [0, 0, 0, 0]) := hide_ (isB_zeros 4)
  have HLL : Hid ([] ++ spl 18 2 ++ spl 8 2 ++ [0, 0, 0, 0] = aencL 18 p x q y f m a b c d) := hide_ (by simp [aencL, bodyL, r8, List.replicate])
  have A0 := hide_ (AB.at0 w 61 [.int .i64 18, .int .i64 p, .int .i64 x, .int .i64 q, .int .i64 y, .int .i64 f, .bool m, .int .u64 (a : Int), .int .u64 (b : Int), .int .u64 (c : Int), .int .u64 (d : Int)])
  have B0 := hide_ (below1 w (.cells #[.int .i64 18, .int .i64 p, .int .i64 x, .int .i64 q, .int .i64 y, .int .i64 f, .bool m, .int .u64 (a : Int), .int .u64 (b : Int), .int .u64 (c : Int), .int .u64 (d : Int)] 61))
  have q1 := fun w => raright_any 18 p x q y f m a b c d w ha hb hc hd
  rw [h] at q1
  have q1 := hide_ q1
  have p1 := hide_ (fun w => rnput_any (.slice none 0 0) [] 18 2 w (Bytes.nil w) (by simp) (by decide) (isB_spl2 _))
  have p2 := hide_ (fun v w hB => rput_own v ([] ++ spl 18 2) 8 2 w hB (by simp [spl_len2]) (by decide) (isB_spl2 _))
  have hL0 : ([] ++ spl 18 2 ++ spl 8 2).length = 4 := by simp [spl_len2]
  obtain ⟨i0, hi0, hz0, hz1, hz2⟩ := info_parts info5
  have HI : Hid (Tryz.prog.info? 5 = some i0 ∧ i0.zero = some (.int .u8 0) ∧ i0.size = 1 ∧ i0.bytes = 1) := ⟨hi0, hz0, hz1, hz2⟩
  clear hi0 hz0 hz1 hz2 h
  generalize aencL 18 p x q y f m a b c d = LL at *
  generalize [] ++ spl 18 2 ++ spl 8 2 = L0 at *
  generalize [] ++ spl 18 2 = L1 at *
  unfold av at *
  clear ha hb hc hd
  go_enter Tryz.func75, Tryz.ntmps75
  go_wp2_with (first | (go_at_call 110; refine (q1.out _).mono ?_; rintro e w1 ⟨rfl, k1⟩; have k1 : Below (w.alloc (.cells #[.int .i64 18, .int .i64 p, .int .i64 x, .int .i64 q, .int .i64 y, .int .i64 f, .bool m, .int .u64 (a : Int), .int .u64 (b : Int), .int .u64 (c : Int), .int .u64 (d : Int)] 61)).heap.size (w.alloc (.cells #[.int .i64 18, .int .i64 p, .int .i64 x, .int .i64 q, .int .i64 y, .int .i64 f, .bool m, .int .u64 (a : Int), .int .u64 (b : Int), .int .u64 (c : Int), .int .u64 (d : Int)] 61)) (w1.alloc (.cells #[] 5)) := k1.trans ((below1 w1 (.cells #[] 5)).mono k1.size); obtain ⟨y0, y1, y2, y3, y4, y5, y6, y7, y8, y9, y10, -⟩ := (A0.out.later k1).eleven; have hb2 : Hid (Bytes ((w1.alloc (.cells #[] 5)).alloc (.cells #[.int .u8 0, .int .u8 0, .int .u8 0, .int .u8 0] 5)) (.slice (some ⟨w1.heap.size + 1, 0, none⟩) 4 4) [0, 0, 0, 0]) := hide_ (by have := bytes_lit (w1.alloc (.cells #[] 5)) [0, 0, 0, 0] (isB_zeros 4) (by simp); simpa [u8s] using this); have kb := k1.trans ((below1 (w1.alloc (.cells #[] 5)) (.cells #[.int .u8 0, .int .u8 0, .int .u8 0, .int .u8 0] 5)).mono k1.size); obtain ⟨z0, z1, z2, z3, z4, z5, z6, z7, z8, z9, z10, -⟩ := (A0.out.later kb).eleven) | (go_at_call_of 36 (Value.slice none 0 0); refine (p1.out _).mono ?_; rintro e w5 ⟨r5, rfl, h5, b5⟩; have k5 := kb.trans (b5.mono kb.size); have h5 := hide_ h5) | (go_at_call 36; refine (p2.out _ _ h5.out).mono ?_; rintro e w6 ⟨r6, rfl, h6, b6⟩; have k6 := k5.trans (b6.mono k5.size); have h6 := hide_ h6) | (at_builtin; refine wpList_append_ownB rfl (.tmp 57) (.tmp 58) 25 rfl w5.heap.size 5 i0 Tryz.underlying25 HI.out.1 HI.out.2.1 HI.out.2.2.1 HI.out.2.2.2 r6 L0.length (u8s L0) (by simp [Act.eval, Act.put]) h6.out.1 (.slice (some ⟨w1.heap.size + 1, 0, none⟩) 4 4) [0, 0, 0, 0] (by simp [Act.eval, Act.put]) ((hb2.out.later b5).later b6) (by simp; omega) b6.size ?_; intro v7 w7 own7 hg7; have b7 := h6.out.growB hg7 (Nat.le_trans B0.out.size k5.size) (Nat.le_trans B0.out.size k6.size); have O7 := hide_ (h6.out.grow hBL.out own7)))
  go_ret2
  refine ⟨_, rfl, ?_, (B0.out.trans (k6.mono B0.out.size)).trans b7⟩
  rw [← HLL.out]
  exact O7.out.bytes
end

section
open Go Go.RowKit
set_option linter.unusedVariables false
set_option linter.unusedSimpArgs false

theorem bytes_z6 (w : World) : Bytes (w.alloc (.cells #[.int .u8 0, .int .u8 0, .int .u8 0, .int .u8 0, .int .u8 0, .int .u8 0] 5)) (.slice (some ⟨w.heap.size, 0, none⟩) 6 6) [0, 0, 0, 0, 0, 0] := by
  have := bytes_lit w [0, 0, 0, 0, 0, 0] (isB_zeros 6) (by simp)
  simpa [u8s] using this
theorem fsize_ge (f : Int) (h : fok f = true) : 1 ≤ fsize f := by
  unfold fok at h
  simp only [Bool.and_eq_true, decide_eq_true_eq] at h
  have := fsize_pos ⟨f.toNat, by omega⟩
  have e : ((f.toNat : Nat) : Int) = f := by omega
  rw [e] at this
  exact this
theorem below_at {B : Nat} {w w' : World} (h : Below B w w') {g j : Nat} (hg : g < B) {x : Value} (hx : w.cell? ⟨g, j, none⟩ = some x) : w'.cell? ⟨g, j, none⟩ = some x := by
  rw [h.cell (by exact hg)]
  exact hx

set_option maxRecDepth 100000 in
set_option maxHeartbeats 4000000 in
theorem raenc_0 (p x q y f : Int) (m : Bool) (a b c d : Nat) (w : World) (ha : a < 18446744073709551616) (hb : b < 18446744073709551616) (hc : c < 18446744073709551616) (hd : d < 18446744073709551616) (h : art 0 p x q y f m a b c d = true) :
    Calls Tryz.prog 75 #[av 0 p x q y f m a b c d] w fun e w' => ∃ r, e = .returned (.tuple #[r, .int .i64 0]) ∧ Bytes w' r (aencL 0 p x q y f m a b c d) ∧ Below w.heap.size w w' := by
  obtain ⟨g1, g2, g3, g4⟩ := art_0 h
  have pp := hide_ (fun w => rnput_any (.slice none 0 0) [] p 4 w (Bytes.nil w) (by simp) (rightB_in4 (by omega) (by omega)) (isB_spl4 (by omega) (by omega)))
  have px := hide_ (fun v w hB => rput_own v ([] ++ spl p 4) x 2 w hB (by simp [spl_len4]) (rightB_in2 g3 (by omega)) (isB_spl2 _))
  have hBL : Hid (isB ([] ++ spl p 4 ++ spl x 2 ++ [0, 0, 0, 0, 0, 0])) := hide_ (((isB_spl4 (by omega) (by omega)).app (isB_spl2 x)).app (isB_zeros 6))
  have hbl : ([] ++ spl p 4 ++ spl x 2 ++ [0, 0, 0, 0, 0, 0]).length = 12 := by simp [spl_len2, spl_len4]
  have hpl : ([] ++ spl p 4 ++ spl x 2).length = 6 := by simp [spl_len2, spl_len4]
  have HLL : Hid ([] ++ spl 0 2 ++ spl 16 2 ++ ([] ++ spl p 4 ++ spl x 2 ++ [0, 0, 0, 0, 0, 0]) = aencL 0 p x q y f m a b c d) := hide_ (by simp [aencL, bodyL, spl_len2, spl_len4, r8, List.replicate])
  have A0 := hide_ (AB.at0 w 61 [.int .i64 0, .int .i64 p, .int .i64 x, .int .i64 q, .int .i64 y, .int .i64 f, .bool m, .int .u64 (a : Int), .int .u64 (b : Int), .int .u64 (c : Int), .int .u64 (d : Int)])
  have B0 := hide_ (below1 w (.cells #[.int .i64 0, .int .i64 p, .int .i64 x, .int .i64 q, .int .i64 y, .int .i64 f, .bool m, .int .u64 (a : Int), .int .u64 (b : Int), .int .u64 (c : Int), .int .u64 (d : Int)] 61))
  have q1 := fun w => raright_any 0 p x q y f m a b c d w ha hb hc hd
  rw [h] at q1
  have q1 := hide_ q1
  have p1 := hide_ (fun w => rnput_any (.slice none 0 0) [] 0 2 w (Bytes.nil w) (by simp) (by decide) (isB_spl2 _))
  have p2 := hide_ (fun v w hB => rput_own v ([] ++ spl 0 2) 16 2 w hB (by simp [spl_len2]) (by decide) (isB_spl2 _))
  have hL0 : ([] ++ spl 0 2 ++ spl 16 2).length = 4 := by simp [spl_len2]
  obtain ⟨i0, hi0, hz0, hz1, hz2⟩ := info_parts info5
  have HI : Hid (Tryz.prog.info? 5 = some i0 ∧ i0.zero = some (.int .u8 0) ∧ i0.size = 1 ∧ i0.bytes = 1) := ⟨hi0, hz0, hz1, hz2⟩
  clear hi0 hz0 hz1 hz2 h
  generalize aencL 0 p x q y f m a b c d = LL at *
  generalize [] ++ spl p 4 ++ spl x 2 = PL at *
  generalize [] ++ spl p 4 = P4 at *
  generalize [] ++ spl 0 2 ++ spl 16 2 = L0 at *
  generalize [] ++ spl 0 2 = L1 at *
  unfold av at *
  clear ha hb hc hd g1 g2 g3 g4
  go_enter Tryz.func75, Tryz.ntmps75
  go_wp2_with (go_at_call 110; refine (q1.out _).mono ?_; rintro e w1 ⟨rfl, k1⟩; have k1 : Below (w.alloc (.cells #[.int .i64 0, .int .i64 p, .int .i64 x, .int .i64 q, .int .i64 y, .int .i64 f, .bool m, .int .u64 (a : Int), .int .u64 (b : Int), .int .u64 (c : Int), .int .u64 (d : Int)] 61)).heap.size (w.alloc (.cells #[.int .i64 0, .int .i64 p, .int .i64 x, .int .i64 q, .int .i64 y, .int .i64 f, .bool m, .int .u64 (a : Int), .int .u64 (b : Int), .int .u64 (c : Int), .int .u64 (d : Int)] 61)) (w1.alloc (.cells #[] 5)) := k1.trans ((below1 w1 (.cells #[] 5)).mono k1.size); obtain ⟨y0, y1, y2, y3, y4, y5, y6, y7, y8, y9, y10, -⟩ := (A0.out.later k1).eleven)
  refine wp_region_held_drew (S := (fun w' => w'.cell? ⟨w.heap.size, 1, none⟩ = some (.int .i64 p) ∧ w'.cell? ⟨w.heap.size, 2, none⟩ = some (.int .i64 x) ∧ w'.cell? ⟨w.heap.size, 0, none⟩ = some (.int .i64 0) ∧ Below (w.alloc (.cells #[.int .i64 0, .int .i64 p, .int .i64 x, .int .i64 q, .int .i64 y, .int .i64 f, .bool m, .int .u64 (a : Int), .int .u64 (b : Int), .int .u64 (c : Int), .int .u64 (d : Int)] 61)).heap.size (w.alloc (.cells #[.int .i64 0, .int .i64 p, .int .i64 x, .int .i64 q, .int .i64 y, .int .i64 f, .bool m, .int .u64 (a : Int), .int .u64 (b : Int), .int .u64 (c : Int), .int .u64 (d : Int)] 61)) w')) (by kernel_rfl) (⟨y1, y2, y0, k1.drew⟩) (fun hHeld => ?_)
  generalize (w1.alloc (.cells #[] 5)).drew = D at *
  refine takeR (i := 0) (v := ?_) rfl (by kernel_rfl) (by kernel_rfl) (by kernel_rfl) (some 13) rfl (Or.inl ⟨by rfl, ?_⟩) (fun _ _ _ h => h) (by assumption) ?_
  rotate_left
  · intro w hSw; (try dsimp only at hSw); go_simp; (try with_reducible rfl)
  simp only [Act.put, List.setIfInBounds_toArray, List.set_cons_zero, List.set_cons_succ]
  refine takeR (i := 1) (v := ?_) rfl (by kernel_rfl) (by kernel_rfl) (by kernel_rfl) (some 14) rfl (Or.inl ⟨by rfl, ?_⟩) (fun _ _ _ h => h) (by assumption) ?_
  rotate_left
  · intro w hSw; (try dsimp only at hSw); go_simp; (try with_reducible rfl)
  simp only [Act.put, List.setIfInBounds_toArray, List.set_cons_zero, List.set_cons_succ]
  refine takeR (i := 3) (v := ?_) rfl (by kernel_rfl) (by kernel_rfl) (by kernel_rfl) (some 16) rfl (Or.inl ⟨by rfl, ?_⟩) (fun _ _ _ h => h) (by assumption) ?_
  rotate_left
  · intro w hSw; (try dsimp only at hSw); go_simp; (try with_reducible rfl)
  simp only [Act.put, List.setIfInBounds_toArray, List.set_cons_zero, List.set_cons_succ]
  refine takeR (i := 4) (v := ?_) rfl (by kernel_rfl) (by kernel_rfl) (by kernel_rfl) (some 17) rfl (Or.inl ⟨by rfl, ?_⟩) (fun _ _ _ h => h) (by assumption) ?_
  rotate_left
  · intro w hSw; (try dsimp only at hSw); go_simp; (try with_reducible rfl)
  simp only [Act.put, List.setIfInBounds_toArray, List.set_cons_zero, List.set_cons_succ]
  refine wpAnyH_ready (rs := [2, 6]) (by kernel_rfl) (by simp) ?_
  refine AllReadyH.cons rfl (fun K hK => ?_) (AllReadyH.cons rfl (fun K hK => ?_) (AllReadyH.nil))
  · go_simp
    refine (pp.out _).mono ?_
    rintro e u1 ⟨r1, rfl, g1, c1⟩
    have g1 := hide_ g1
    first | (replace hz := hide_ (hz.out.later c1)) | skip
    refine hK.out _ _ (kN3 c1 hHeld) (fun hHeld => ?_)
    clear hK K
    try simp only [Act.put, List.setIfInBounds_toArray, List.set_cons_zero, List.set_cons_succ]
    refine wpAnyH_ready (rs := [5, 6]) (by kernel_rfl) (by simp) ?_
    refine AllReadyH.cons rfl (fun K hK => ?_) (AllReadyH.cons rfl (fun K hK => ?_) (AllReadyH.nil))
    · go_simp
      refine (px.out _ _ g1.out).mono ?_
      rintro e u2 ⟨r2, rfl, g2, c2⟩
      have g2 := hide_ (g2.mono hHeld.2.2.2.size)
      first | (replace hz := hide_ (hz.out.later c2)) | skip
      refine hK.out _ _ (kN3 c2 hHeld) (fun hHeld => ?_)
      clear hK K
      try simp only [Act.put, List.setIfInBounds_toArray, List.set_cons_zero, List.set_cons_succ]
      refine wpAnyH_ready (rs := [6]) (by kernel_rfl) (by simp) ?_
      refine AllReadyH.cons rfl (fun K hK => ?_) (AllReadyH.nil)
      go_simp
      first | (replace g2 := hide_ (g2.out.later (below1 _ (.cells #[.int .u8 0, .int .u8 0, .int .u8 0, .int .u8 0, .int .u8 0, .int .u8 0] 5)))) | skip
      first | (replace g1 := hide_ (g1.out.later (below1 _ (.cells #[.int .u8 0, .int .u8 0, .int .u8 0, .int .u8 0, .int .u8 0, .int .u8 0] 5)))) | skip
      first | have hz := hide_ (bytes_z6 u2) | have hz := hide_ (bytes_z6 u1) | have hz := hide_ (bytes_z6 D)
      refine hK.out _ _ (kN3 (below1 _ (.cells #[.int .u8 0, .int .u8 0, .int .u8 0, .int .u8 0, .int .u8 0, .int .u8 0] 5)) hHeld) (fun hHeld => ?_)
      clear hK K
      try simp only [Act.put, List.setIfInBounds_toArray, List.set_cons_zero, List.set_cons_succ]
      refine wpAnyH_ready (rs := [7]) (by kernel_rfl) (by simp) ?_
      refine AllReadyH.cons rfl (fun K hK => ?_) (AllReadyH.nil)
      refine step_append_ownB rfl (.tmp 18) (.tmp 19) 25 rfl (w.alloc (.cells #[.int .i64 0, .int .i64 p, .int .i64 x, .int .i64 q, .int .i64 y, .int .i64 f, .bool m, .int .u64 (a : Int), .int .u64 (b : Int), .int .u64 (c : Int), .int .u64 (d : Int)] 61)).heap.size 5 i0 Tryz.underlying25 HI.out.1 HI.out.2.1 HI.out.2.2.1 HI.out.2.2.2 r2 PL.length (u8s PL) (by first | rfl | simp [Act.eval, Act.put]) g2.out.1 _ [0, 0, 0, 0, 0, 0] (by first | rfl | simp [Act.eval, Act.put]) hz.out (by simp; omega) hHeld.2.2.2.size ?_
      intro v3 w3 own3 hg3
      have b3 := g2.out.growB hg3 (Nat.le_refl _) hHeld.2.2.2.size
      have O3 := hide_ (g2.out.grow (isB_zeros 6) own3)
      refine hK.out _ _ (⟨below_at b3 (by simp) hHeld.1, below_at b3 (by simp) hHeld.2.1, below_at b3 (by simp) hHeld.2.2.1, hHeld.2.2.2.trans b3⟩) (fun hHeld => ?_)
      clear hK K
      try simp only [Act.put, List.setIfInBounds_toArray, List.set_cons_zero, List.set_cons_succ]
      refine takeR (i := 8) (v := ?_) rfl (by kernel_rfl) (by kernel_rfl) (by kernel_rfl) (some 4) rfl (Or.inl ⟨by rfl, ?_⟩) (fun _ _ _ h => h) (by assumption) ?_
      rotate_left
      · intro w hSw; (try dsimp only at hSw); go_simp; (try with_reducible rfl)
      simp only [Act.put, List.setIfInBounds_toArray, List.set_cons_zero, List.set_cons_succ]
      refine wpAnyH_done (by kernel_rfl) ?_ _
      have kb := hHeld.2.2.2
      obtain ⟨bg, bc, e4, -⟩ := O3.out.form (by show 0 < (PL ++ [0, 0, 0, 0, 0, 0]).length; rw [hbl]; omega)
      have e3 : v3 = .slice (some ⟨bg, 0, none⟩) 12 bc := by rw [e4]; show Value.slice _ (PL ++ [0, 0, 0, 0, 0, 0]).length _ = _; rw [hbl]
      clear e4
      subst e3
      have hb2 := hide_ O3.out.bytes
      obtain ⟨z0, z1, z2, z3, z4, z5, z6, z7, z8, z9, z10, -⟩ := (A0.out.later kb).eleven
      clear g1 g2 hz own3 hg3 b3 c1 c2 k1
      go_wp2_with (first  | (go_at_call_of 36 (Value.slice none 0 0); refine (p1.out _).mono ?_; rintro e w5 ⟨r5, rfl, h5, b5⟩; have k5 := kb.trans (b5.mono kb.size); have h5 := hide_ h5) | (go_at_call 36; refine (p2.out _ _ h5.out).mono ?_; rintro e w6 ⟨r6, rfl, h6, b6⟩; have k6 := k5.trans (b6.mono k5.size); have h6 := hide_ h6) | (at_builtin; refine wpList_append_ownB rfl (.tmp 57) (.tmp 58) 25 rfl w5.heap.size 5 i0 Tryz.underlying25 HI.out.1 HI.out.2.1 HI.out.2.2.1 HI.out.2.2.2 r6 L0.length (u8s L0) (by simp [Act.eval, Act.put]) h6.out.1 (.slice (some ⟨bg, 0, none⟩) 12 bc) (PL ++ [0, 0, 0, 0, 0, 0]) (by simp [Act.eval, Act.put]) ((hb2.out.later b5).later b6) (by omega) b6.size ?_; intro v7 w7 own7 hg7; have b7 := h6.out.growB hg7 (Nat.le_trans B0.out.size k5.size) (Nat.le_trans B0.out.size k6.size); have O7 := hide_ (h6.out.grow hBL.out own7)))
      go_ret2
      refine ⟨_, rfl, ?_, (B0.out.trans (k6.mono B0.out.size)).trans b7⟩
      rw [← HLL.out]
      exact O7.out.bytes
    · go_simp
      first | (replace g2 := hide_ (g2.out.later (below1 _ (.cells #[.int .u8 0, .int .u8 0, .int .u8 0, .int .u8 0, .int .u8 0, .int .u8 0] 5)))) | skip
      first | (replace g1 := hide_ (g1.out.later (below1 _ (.cells #[.int .u8 0, .int .u8 0, .int .u8 0, .int .u8 0, .int .u8 0, .int .u8 0] 5)))) | skip
      first | have hz := hide_ (bytes_z6 u2) | have hz := hide_ (bytes_z6 u1) | have hz := hide_ (bytes_z6 D)
      refine hK.out _ _ (kN3 (below1 _ (.cells #[.int .u8 0, .int .u8 0, .int .u8 0, .int .u8 0, .int .u8 0, .int .u8 0] 5)) hHeld) (fun hHeld => ?_)
      clear hK K
      try simp only [Act.put, List.setIfInBounds_toArray, List.set_cons_zero, List.set_cons_succ]
      refine wpAnyH_ready (rs := [5]) (by kernel_rfl) (by simp) ?_
      refine AllReadyH.cons rfl (fun K hK => ?_) (AllReadyH.nil)
      go_simp
      refine (px.out _ _ g1.out).mono ?_
      rintro e u2 ⟨r2, rfl, g2, c2⟩
      have g2 := hide_ (g2.mono hHeld.2.2.2.size)
      first | (replace hz := hide_ (hz.out.later c2)) | skip
      refine hK.out _ _ (kN3 c2 hHeld) (fun hHeld => ?_)
      clear hK K
      try simp only [Act.put, List.setIfInBounds_toArray, List.set_cons_zero, List.set_cons_succ]
      refine wpAnyH_ready (rs := [7]) (by kernel_rfl) (by simp) ?_
      refine AllReadyH.cons rfl (fun K hK => ?_) (AllReadyH.nil)
      refine step_append_ownB rfl (.tmp 18) (.tmp 19) 25 rfl (w.alloc (.cells #[.int .i64 0, .int .i64 p, .int .i64 x, .int .i64 q, .int .i64 y, .int .i64 f, .bool m, .int .u64 (a : Int), .int .u64 (b : Int), .int .u64 (c : Int), .int .u64 (d : Int)] 61)).heap.size 5 i0 Tryz.underlying25 HI.out.1 HI.out.2.1 HI.out.2.2.1 HI.out.2.2.2 r2 PL.length (u8s PL) (by first | rfl | simp [Act.eval, Act.put]) g2.out.1 _ [0, 0, 0, 0, 0, 0] (by first | rfl | simp [Act.eval, Act.put]) hz.out (by simp; omega) hHeld.2.2.2.size ?_
      intro v3 w3 own3 hg3
      have b3 := g2.out.growB hg3 (Nat.le_refl _) hHeld.2.2.2.size
      have O3 := hide_ (g2.out.grow (isB_zeros 6) own3)
      refine hK.out _ _ (⟨below_at b3 (by simp) hHeld.1, below_at b3 (by simp) hHeld.2.1, below_at b3 (by simp) hHeld.2.2.1, hHeld.2.2.2.trans b3⟩) (fun hHeld => ?_)
      clear hK K
      try simp only [Act.put, List.setIfInBounds_toArray, List.set_cons_zero, List.set_cons_succ]
      refine takeR (i := 8) (v := ?_) rfl (by kernel_rfl) (by kernel_rfl) (by kernel_rfl) (some 4) rfl (Or.inl ⟨by rfl, ?_⟩) (fun _ _ _ h => h) (by assumption) ?_
      rotate_left
      · intro w hSw; (try dsimp only at hSw); go_simp; (try with_reducible rfl)
      simp only [Act.put, List.setIfInBounds_toArray, List.set_cons_zero, List.set_cons_succ]
      refine wpAnyH_done (by kernel_rfl) ?_ _
      have kb := hHeld.2.2.2
      obtain ⟨bg, bc, e4, -⟩ := O3.out.form (by show 0 < (PL ++ [0, 0, 0, 0, 0, 0]).length; rw [hbl]; omega)
      have e3 : v3 = .slice (some ⟨bg, 0, none⟩) 12 bc := by rw [e4]; show Value.slice _ (PL ++ [0, 0, 0, 0, 0, 0]).length _ = _; rw [hbl]
      clear e4
      subst e3
      have hb2 := hide_ O3.out.bytes
      obtain ⟨z0, z1, z2, z3, z4, z5, z6, z7, z8, z9, z10, -⟩ := (A0.out.later kb).eleven
      clear g1 g2 hz own3 hg3 b3 c1 c2 k1
      go_wp2_with (first  | (go_at_call_of 36 (Value.slice none 0 0); refine (p1.out _).mono ?_; rintro e w5 ⟨r5, rfl, h5, b5⟩; have k5 := kb.trans (b5.mono kb.size); have h5 := hide_ h5) | (go_at_call 36; refine (p2.out _ _ h5.out).mono ?_; rintro e w6 ⟨r6, rfl, h6, b6⟩; have k6 := k5.trans (b6.mono k5.size); have h6 := hide_ h6) | (at_builtin; refine wpList_append_ownB rfl (.tmp 57) (.tmp 58) 25 rfl w5.heap.size 5 i0 Tryz.underlying25 HI.out.1 HI.out.2.1 HI.out.2.2.1 HI.out.2.2.2 r6 L0.length (u8s L0) (by simp [Act.eval, Act.put]) h6.out.1 (.slice (some ⟨bg, 0, none⟩) 12 bc) (PL ++ [0, 0, 0, 0, 0, 0]) (by simp [Act.eval, Act.put]) ((hb2.out.later b5).later b6) (by omega) b6.size ?_; intro v7 w7 own7 hg7; have b7 := h6.out.growB hg7 (Nat.le_trans B0.out.size k5.size) (Nat.le_trans B0.out.size k6.size); have O7 := hide_ (h6.out.grow hBL.out own7)))
      go_ret2
      refine ⟨_, rfl, ?_, (B0.out.trans (k6.mono B0.out.size)).trans b7⟩
      rw [← HLL.out]
      exact O7.out.bytes
  · go_simp
    first | (replace g2 := hide_ (g2.out.later (below1 _ (.cells #[.int .u8 0, .int .u8 0, .int .u8 0, .int .u8 0, .int .u8 0, .int .u8 0] 5)))) | skip
    first | (replace g1 := hide_ (g1.out.later (below1 _ (.cells #[.int .u8 0, .int .u8 0, .int .u8 0, .int .u8 0, .int .u8 0, .int .u8 0] 5)))) | skip
    first | have hz := hide_ (bytes_z6 u2) | have hz := hide_ (bytes_z6 u1) | have hz := hide_ (bytes_z6 D)
    refine hK.out _ _ (kN3 (below1 _ (.cells #[.int .u8 0, .int .u8 0, .int .u8 0, .int .u8 0, .int .u8 0, .int .u8 0] 5)) hHeld) (fun hHeld => ?_)
    clear hK K
    try simp only [Act.put, List.setIfInBounds_toArray, List.set_cons_zero, List.set_cons_succ]
    refine wpAnyH_ready (rs := [2]) (by kernel_rfl) (by simp) ?_
    refine AllReadyH.cons rfl (fun K hK => ?_) (AllReadyH.nil)
    go_simp
    refine (pp.out _).mono ?_
    rintro e u1 ⟨r1, rfl, g1, c1⟩
    have g1 := hide_ g1
    first | (replace hz := hide_ (hz.out.later c1)) | skip
    refine hK.out _ _ (kN3 c1 hHeld) (fun hHeld => ?_)
    clear hK K
    try simp only [Act.put, List.setIfInBounds_toArray, List.set_cons_zero, List.set_cons_succ]
    refine wpAnyH_ready (rs := [5]) (by kernel_rfl) (by simp) ?_
    refine AllReadyH.cons rfl (fun K hK => ?_) (AllReadyH.nil)
    go_simp
    refine (px.out _ _ g1.out).mono ?_
    rintro e u2 ⟨r2, rfl, g2, c2⟩
    have g2 := hide_ (g2.mono hHeld.2.2.2.size)
    first | (replace hz := hide_ (hz.out.later c2)) | skip
    refine hK.out _ _ (kN3 c2 hHeld) (fun hHeld => ?_)
    clear hK K
    try simp only [Act.put, List.setIfInBounds_toArray, List.set_cons_zero, List.set_cons_succ]
    refine wpAnyH_ready (rs := [7]) (by kernel_rfl) (by simp) ?_
    refine AllReadyH.cons rfl (fun K hK => ?_) (AllReadyH.nil)
    refine step_append_ownB rfl (.tmp 18) (.tmp 19) 25 rfl (w.alloc (.cells #[.int .i64 0, .int .i64 p, .int .i64 x, .int .i64 q, .int .i64 y, .int .i64 f, .bool m, .int .u64 (a : Int), .int .u64 (b : Int), .int .u64 (c : Int), .int .u64 (d : Int)] 61)).heap.size 5 i0 Tryz.underlying25 HI.out.1 HI.out.2.1 HI.out.2.2.1 HI.out.2.2.2 r2 PL.length (u8s PL) (by first | rfl | simp [Act.eval, Act.put]) g2.out.1 _ [0, 0, 0, 0, 0, 0] (by first | rfl | simp [Act.eval, Act.put]) hz.out (by simp; omega) hHeld.2.2.2.size ?_
    intro v3 w3 own3 hg3
    have b3 := g2.out.growB hg3 (Nat.le_refl _) hHeld.2.2.2.size
    have O3 := hide_ (g2.out.grow (isB_zeros 6) own3)
    refine hK.out _ _ (⟨below_at b3 (by simp) hHeld.1, below_at b3 (by simp) hHeld.2.1, below_at b3 (by simp) hHeld.2.2.1, hHeld.2.2.2.trans b3⟩) (fun hHeld => ?_)
    clear hK K
    try simp only [Act.put, List.setIfInBounds_toArray, List.set_cons_zero, List.set_cons_succ]
    refine takeR (i := 8) (v := ?_) rfl (by kernel_rfl) (by kernel_rfl) (by kernel_rfl) (some 4) rfl (Or.inl ⟨by rfl, ?_⟩) (fun _ _ _ h => h) (by assumption) ?_
    rotate_left
    · intro w hSw; (try dsimp only at hSw); go_simp; (try with_reducible rfl)
    simp only [Act.put, List.setIfInBounds_toArray, List.set_cons_zero, List.set_cons_succ]
    refine wpAnyH_done (by kernel_rfl) ?_ _
    have kb := hHeld.2.2.2
    obtain ⟨bg, bc, e4, -⟩ := O3.out.form (by show 0 < (PL ++ [0, 0, 0, 0, 0, 0]).length; rw [hbl]; omega)
    have e3 : v3 = .slice (some ⟨bg, 0, none⟩) 12 bc := by rw [e4]; show Value.slice _ (PL ++ [0, 0, 0, 0, 0, 0]).length _ = _; rw [hbl]
    clear e4
    subst e3
    have hb2 := hide_ O3.out.bytes
    obtain ⟨z0, z1, z2, z3, z4, z5, z6, z7, z8, z9, z10, -⟩ := (A0.out.later kb).eleven
    clear g1 g2 hz own3 hg3 b3 c1 c2 k1
    go_wp2_with (first  | (go_at_call_of 36 (Value.slice none 0 0); refine (p1.out _).mono ?_; rintro e w5 ⟨r5, rfl, h5, b5⟩; have k5 := kb.trans (b5.mono kb.size); have h5 := hide_ h5) | (go_at_call 36; refine (p2.out _ _ h5.out).mono ?_; rintro e w6 ⟨r6, rfl, h6, b6⟩; have k6 := k5.trans (b6.mono k5.size); have h6 := hide_ h6) | (at_builtin; refine wpList_append_ownB rfl (.tmp 57) (.tmp 58) 25 rfl w5.heap.size 5 i0 Tryz.underlying25 HI.out.1 HI.out.2.1 HI.out.2.2.1 HI.out.2.2.2 r6 L0.length (u8s L0) (by simp [Act.eval, Act.put]) h6.out.1 (.slice (some ⟨bg, 0, none⟩) 12 bc) (PL ++ [0, 0, 0, 0, 0, 0]) (by simp [Act.eval, Act.put]) ((hb2.out.later b5).later b6) (by omega) b6.size ?_; intro v7 w7 own7 hg7; have b7 := h6.out.growB hg7 (Nat.le_trans B0.out.size k5.size) (Nat.le_trans B0.out.size k6.size); have O7 := hide_ (h6.out.grow hBL.out own7)))
    go_ret2
    refine ⟨_, rfl, ?_, (B0.out.trans (k6.mono B0.out.size)).trans b7⟩
    rw [← HLL.out]
    exact O7.out.bytes

set_option maxRecDepth 100000 in
set_option maxHeartbeats 4000000 in
theorem raenc_25 (p x q y f : Int) (m : Bool) (a b c d : Nat) (w : World) (ha : a < 18446744073709551616) (hb : b < 18446744073709551616) (hc : c < 18446744073709551616) (hd : d < 18446744073709551616) (h : art 25 p x q y f m a b c d = true) :
    Calls Tryz.prog 75 #[av 25 p x q y f m a b c d] w fun e w' => ∃ r, e = .returned (.tuple #[r, .int .i64 0]) ∧ Bytes w' r (aencL 25 p x q y f m a b c d) ∧ Below w.heap.size w w' := by
  obtain ⟨g1, rfl, -⟩ := art_25 h
  have pe := hide_ (fun w => roenc_own0 f a b c d w ha hb hc hd g1)
  unfold ov at pe
  have hbl := encL_le f false a b c d
  have hb0 : 4 < (encL f false a b c d).length := by
    have h0 := fsize_ge f (rgt_fok g1)
    have h1 := fsize_le f
    have h2 : cl (fsize f : Int) 16 = fsize f := by unfold cl; omega
    simp only [encL, List.append_nil, List.length_append, spl_len2, spl_len1, wtail_length, h2]; omega
  obtain ⟨n, hn⟩ : ∃ n, 4 + (encL f false a b c d).length = n := ⟨_, rfl⟩
  have hr1 := r8_ge n
  have hr2 := r8_le n
  have hr3 : r8 n % 8 = 0 := by unfold r8; omega
  have hr4 : r8 n ≤ 47 := by unfold r8; omega
  have hr5 : ∀ j, j ≤ r8 n - n → ((n - 4 + j) % 8 = 4 ↔ j = r8 n - n) := by intro j hj; unfold r8 at *; omega
  have HLL : Hid ([] ++ spl 25 2 ++ spl ((r8 n : Nat) : Int) 2 ++ (encL f false a b c d ++ List.replicate (r8 n - n) 0) = aencL 25 p x q y f false a b c d) := hide_ (aenc_list2 25 p x q y f false a b c d n hn)
  generalize r8 n = n6 at *
  have A0 := hide_ (AB.at0 w 61 [.int .i64 25, .int .i64 p, .int .i64 x, .int .i64 q, .int .i64 y, .int .i64 f, .bool false, .int .u64 (a : Int), .int .u64 (b : Int), .int .u64 (c : Int), .int .u64 (d : Int)])
  have B0 := hide_ (below1 w (.cells #[.int .i64 25, .int .i64 p, .int .i64 x, .int .i64 q, .int .i64 y, .int .i64 f, .bool false, .int .u64 (a : Int), .int .u64 (b : Int), .int .u64 (c : Int), .int .u64 (d : Int)] 61))
  have q1 := fun w => raright_any 25 p x q y f false a b c d w ha hb hc hd
  rw [h] at q1
  have q1 := hide_ q1
  have p1 := hide_ (fun w => rnput_any (.slice none 0 0) [] 25 2 w (Bytes.nil w) (by simp) (by decide) (isB_spl2 _))
  have p2 := hide_ (fun v w hB => rput_own v ([] ++ spl 25 2) (n6 : Int) 2 w hB (by simp [spl_len2]) (by exact rightB_in2 (by omega) (by omega)) (isB_spl2 _))
  have hL0 : ([] ++ spl 25 2 ++ spl (n6 : Int) 2).length = 4 := by simp [spl_len2]
  obtain ⟨i0, hi0, hz0, hz1, hz2⟩ := info_parts info5
  have HI : Hid (Tryz.prog.info? 5 = some i0 ∧ i0.zero = some (.int .u8 0) ∧ i0.size = 1 ∧ i0.bytes = 1) := ⟨hi0, hz0, hz1, hz2⟩
  clear hi0 hz0 hz1 hz2 h
  generalize aencL 25 p x q y f false a b c d = LL at *
  generalize encL f false a b c d = E at *
  generalize [] ++ spl 25 2 ++ spl (n6 : Int) 2 = L0 at *
  generalize [] ++ spl 25 2 = L1 at *
  unfold av at *
  clear ha hb hc hd g1
  go_enter Tryz.func75, Tryz.ntmps75
  go_wp2_with (first | (go_at_call 110; refine (q1.out _).mono ?_; rintro e w1 ⟨rfl, k1⟩; have k1 : Below (w.alloc (.cells #[.int .i64 25, .int .i64 p, .int .i64 x, .int .i64 q, .int .i64 y, .int .i64 f, .bool false, .int .u64 (a : Int), .int .u64 (b : Int), .int .u64 (c : Int), .int .u64 (d : Int)] 61)).heap.size (w.alloc (.cells #[.int .i64 25, .int .i64 p, .int .i64 x, .int .i64 q, .int .i64 y, .int .i64 f, .bool false, .int .u64 (a : Int), .int .u64 (b : Int), .int .u64 (c : Int), .int .u64 (d : Int)] 61)) (w1.alloc (.cells #[] 5)) := k1.trans ((below1 w1 (.cells #[] 5)).mono k1.size); obtain ⟨y0, y1, y2, y3, y4, y5, y6, y7, y8, y9, y10, -⟩ := (A0.out.later k1).eleven) | (go_at_call 111; refine (pe.out _).mono ?_; rintro e w2 ⟨r2, rfl, h2, b2⟩; have k2 := k1.trans (b2.mono k1.size); have h2 := hide_ (h2.mono k1.size); obtain ⟨bo, bc, e2, -⟩ := h2.out.form (by omega)))
  go_loopw [4] (fun u wr => ∃ (j : Nat) (bg bc : Nat), j ≤ n6 - n ∧ u = .slice (some ⟨bg, 0, none⟩) (n - 4 + j) bc ∧ Hid (OwnB wr (w.alloc (.cells #[.int .i64 25, .int .i64 p, .int .i64 x, .int .i64 q, .int .i64 y, .int .i64 f, .bool false, .int .u64 (a : Int), .int .u64 (b : Int), .int .u64 (c : Int), .int .u64 (d : Int)] 61)).heap.size (.slice (some ⟨bg, 0, none⟩) (n - 4 + j) bc) (E ++ List.replicate j 0)) ∧ Hid (Below (w.alloc (.cells #[.int .i64 25, .int .i64 p, .int .i64 x, .int .i64 q, .int .i64 y, .int .i64 f, .bool false, .int .u64 (a : Int), .int .u64 (b : Int), .int .u64 (c : Int), .int .u64 (d : Int)] 61)).heap.size (w.alloc (.cells #[.int .i64 25, .int .i64 p, .int .i64 x, .int .i64 q, .int .i64 y, .int .i64 f, .bool false, .int .u64 (a : Int), .int .u64 (b : Int), .int .u64 (c : Int), .int .u64 (d : Int)] 61)) wr)) (fun u _ => n6 - slen u)
  case atStart =>
    refine ⟨0, bo, bc, Nat.zero_le _, ?_, ?_, hide_ k2⟩
    · first | (congr 1; omega) | (rw [e2]; congr 1; omega)
    · have e4 : n - 4 + 0 = E.length := by omega
      rw [e4]
      simpa [e2] using h2
  case round =>
    obtain ⟨j, bg, bc, hj, rfl, O, KB⟩ := hrel
    have hlj : (E ++ List.replicate j (0 : Int)).length = n - 4 + j := by rw [List.length_append, List.length_replicate]; omega
    have hm1 : Int.tmod ((n - 4 + j : Nat) : Int) 8 = (((n - 4 + j) % 8 : Nat) : Int) := by rw [Int.tmod_eq_emod_of_nonneg (by omega)]; omega
    have hj5 := hr5 j hj
    by_cases hje : j = n6 - n
    · have hc : (n - 4 + j) % 8 = 4 := hj5.2 hje
      have hm2 : Int.tmod ((n - 4 + j : Nat) : Int) 8 = 4 := by rw [hm1, hc]; rfl
      have kb := KB.out
      have hnb : n - 4 + j ≤ 60 := by omega
      have hb2 := hide_ O.out.bytes
      have hBL : Hid (isB (E ++ List.replicate j 0)) := hide_ O.out.2
      rw [← hje] at HLL
      have hwr : IntKind.i64.wrap (4 + ((n - 4 + j : Nat) : Int)) = (n6 : Int) := by rw [IntKind.wrap_i64]; omega
      obtain ⟨z0, z1, z2, z3, z4, z5, z6, z7, z8, z9, z10, -⟩ := (A0.out.later kb).eleven
      clear hj5 hm1 KB hr5 hr3 hje
      generalize n - 4 + j = nb at *
      generalize E ++ List.replicate j 0 = BL at *
      go_wp2_with (first  | (go_at_call_of 36 (Value.slice none 0 0); refine (p1.out _).mono ?_; rintro e w5 ⟨r5, rfl, h5, b5⟩; have k5 := kb.trans (b5.mono kb.size); have h5 := hide_ h5) | (go_at_call 36; refine (p2.out _ _ h5.out).mono ?_; rintro e w6 ⟨r6, rfl, h6, b6⟩; have k6 := k5.trans (b6.mono k5.size); have h6 := hide_ h6) | (at_builtin; refine wpList_append_ownB rfl (.tmp 57) (.tmp 58) 25 rfl w5.heap.size 5 i0 Tryz.underlying25 HI.out.1 HI.out.2.1 HI.out.2.2.1 HI.out.2.2.2 r6 L0.length (u8s L0) (by simp [Act.eval, Act.put]) h6.out.1 (.slice (some ⟨bg, 0, none⟩) nb bc) BL (by simp [Act.eval, Act.put]) ((hb2.out.later b5).later b6) (by omega) b6.size ?_; intro v7 w7 own7 hg7; have b7 := h6.out.growB hg7 (Nat.le_trans B0.out.size k5.size) (Nat.le_trans B0.out.size k6.size); have O7 := hide_ (h6.out.grow hBL.out own7)))
      go_ret2
      refine ⟨_, rfl, ?_, (B0.out.trans (k6.mono B0.out.size)).trans b7⟩
      rw [← HLL.out]
      exact O7.out.bytes
    · have hc : ¬ (n - 4 + j) % 8 = 4 := fun h => hje (hj5.1 h)
      have hm2 : (Int.tmod ((n - 4 + j : Nat) : Int) 8 == 4) = false := by rw [hm1]; simp; omega
      have hm3 : ¬ Int.tmod ((n - 4 + j : Nat) : Int) 8 = 4 := by rw [hm1]; omega
      have hsz := KB.out.size
      go_wp2_with (at_builtin; refine wpList_append_lit (.tmp 48) (.tmp 49) 25 rfl 5 i0 Tryz.underlying25 HI.out.1 HI.out.2.1 HI.out.2.2.1 HI.out.2.2.2 (w.alloc (.cells #[.int .i64 25, .int .i64 p, .int .i64 x, .int .i64 q, .int .i64 y, .int .i64 f, .bool false, .int .u64 (a : Int), .int .u64 (b : Int), .int .u64 (c : Int), .int .u64 (d : Int)] 61)).heap.size (.slice (some ⟨bg, 0, none⟩) (n - 4 + j) bc) (n - 4 + j) (u8s (E ++ List.replicate j 0)) (by simp [Act.eval, Act.put]) wr (by have := O.out.1; rw [hlj] at this; exact this) [0] _ rfl 1 rfl (by simp [Act.eval, Act.put]) (by simp [Region.wanted]) (by simp; omega) hsz ?_; intro v3 w3 own3 b3)
      have O3 := hide_ (O.out.lit (isB_zeros 1) hlj own3 : OwnB w3 (w.alloc (.cells #[.int .i64 25, .int .i64 p, .int .i64 x, .int .i64 q, .int .i64 y, .int .i64 f, .bool false, .int .u64 (a : Int), .int .u64 (b : Int), .int .u64 (c : Int), .int .u64 (d : Int)] 61)).heap.size v3 (E ++ List.replicate j 0 ++ [0]))
      obtain ⟨bg3, bc3, e4, -⟩ := O3.out.form (by simp; try omega)
      have e3 : v3 = .slice (some ⟨bg3, 0, none⟩) (n - 4 + (j + 1)) bc3 := by rw [e4]; congr 1; rw [List.length_append, hlj]; simp; omega
      clear e4
      subst e3
      clear own3 O
      go_wp2
      go_roundw
      case rel =>
        refine ⟨j + 1, bg3, bc3, by omega, rfl, ?_, hide_ (KB.out.trans b3)⟩
        have e4 : E ++ List.replicate (j + 1) (0 : Int) = E ++ List.replicate j 0 ++ [0] := by rw [List.append_assoc, ← List.replicate_succ']
        rw [e4]
        exact O3
      case measure => simp [slen]; omega
end

section
open Go Go.RowKit
set_option linter.unusedVariables false
set_option linter.unusedSimpArgs false

theorem raenc_yes (k p x q y f : Int) (m : Bool) (a b c d : Nat) (w : World) (ha : a < 18446744073709551616) (hb : b < 18446744073709551616) (hc : c < 18446744073709551616) (hd : d < 18446744073709551616) (h : art k p x q y f m a b c d = true) :
    Calls Tryz.prog 75 #[av k p x q y f m a b c d] w fun e w' => ∃ r, e = .returned (.tuple #[r, .int .i64 0]) ∧ Bytes w' r (aencL k p x q y f m a b c d) ∧ Below w.heap.size w w' := by
  rcases art_kind h with rfl | rfl | rfl | rfl | rfl
  · exact raenc_0 p x q y f m a b c d w ha hb hc hd h
  · exact raenc_22 p x q y f m a b c d w ha hb hc hd h
  · exact raenc_17 p x q y f m a b c d w ha hb hc hd h
  · exact raenc_18 p x q y f m a b c d w ha hb hc hd h
  · exact raenc_25 p x q y f m a b c d w ha hb hc hd h
theorem encA_take {L : List A11} {j : Nat} {o : A11} (h : L[j]? = some o) : encA (L.take (j + 1)) = encA (L.take j) ++ aencO o := by
  rw [List.take_add_one, h]
  exact encA_snoc _ _
theorem encA_lt (L : List A11) (j : Nat) : (encA (L.take j)).length ≤ (L.take j).length * 64 ∨ True := .inr trivial

set_option maxRecDepth 100000 in
set_option maxHeartbeats 8000000 in
theorem rle_big (v : Value) (L : List A11) (w : World) (hL : ActAt w v L) (h : 100 < L.length) :
    Calls Tryz.prog 38 #[v] w fun e w' => e = .returned (.tuple #[.slice none 0 0, .int .i64 1]) ∧ Below w.heap.size w w' := by
  obtain ⟨s, cap, rfl, h2⟩ := hL.slice
  have g1 : (100 : Int) < (L.length : Int) := by omega
  clear hL
  go_enter Tryz.func38, Tryz.ntmps38
  go_wp2_with fail
  go_ret2
  exact ⟨rfl, Below.refl _ _⟩
end

section
open Go Go.RowKit
set_option linter.unusedVariables false
set_option linter.unusedSimpArgs false

set_option maxRecDepth 100000 in
set_option maxHeartbeats 8000000 in
theorem rle_yes (v : Value) (L : List A11) (w : World) (hL : ActAt w v L) (hF : AFit L) (h : L.length ≤ 100) (hr : L.all artO = true) :
    Calls Tryz.prog 38 #[v] w fun e w' => (∃ r, e = .returned (.tuple #[r, .int .i64 0]) ∧ OwnB w' w.heap.size r (encA L)) ∧ Below w.heap.size w w' := by
  obtain ⟨s, cap, rfl, h1, h2, h3, h4⟩ := hL
  have HL := hide_ h4
  have HF := hide_ (@hF)
  have HR := hide_ hr
  have g1 : ¬ (100 : Int) < (L.length : Int) := by omega
  have hm : L.length ≤ 9223372036854775807 := by omega
  clear h1 h2 h3 h4 hF hr
  obtain ⟨i0, hi0, hz0, hz1, hz2⟩ := info_parts info8g
  have HI : Hid (Tryz.prog.info? 5 = some i0 ∧ i0.zero = some (.int .u8 0) ∧ i0.size = 1 ∧ i0.bytes = 1) := ⟨hi0, hz0, hz1, hz2⟩
  clear hi0 hz0 hz1 hz2
  have BE := hide_ (below1 w (.cells #[] 5))
  have OE : Hid (OwnB (w.alloc (.cells #[] 5)) w.heap.size (.slice (some ⟨w.heap.size, 0, none⟩) 0 0) []) := hide_ ⟨⟨rfl, .inr ⟨w.heap.size, 0, #[], rfl, Nat.le_refl _, heap_alloc_last w _, Nat.le_refl _, by decide, rfl, rfl⟩⟩, fun z hz => by simp at hz⟩
  go_enter Tryz.func38, Tryz.ntmps38
  go_wp2
  go_loopw [4, 5] (fun u i wr => ∃ (j : Nat) (ua : Option Addr) (uc : Nat) (B : List Int), j ≤ L.length ∧ i = .int .i64 j ∧ u = .slice ua B.length uc ∧ B.length ≤ j * 60 ∧ Hid (OwnB wr w.heap.size (.slice ua B.length uc) B) ∧ Hid (B = encA (L.take j) ∧ (L.take j).all artO = true) ∧ Hid (Below w.heap.size w wr)) (fun _ i _ => L.length - (intOf i).toNat)
  case atStart => exact ⟨0, _, _, [], Nat.zero_le _, rfl, rfl, by simp, OE, hide_ ⟨rfl, rfl⟩, BE⟩
  case round =>
    obtain ⟨j, ua, uc, B, hj, rfl, rfl, hBl, HO, HE, KB⟩ := hrel
    by_cases hlt : j < L.length
    · skip
      obtain ⟨⟨k, p, x, q, y, f, m, a, b, c, d⟩, hz⟩ : ∃ z, L[j]? = some z := ⟨_, List.getElem?_eq_getElem hlt⟩
      obtain ⟨bq, off, rfl, X0, X1, X2, X3, X4, X5, X6, X7, X8, X9, X10⟩ := act11 HL.out hz
      have X0 := cell_later KB.out X0
      have X1 := cell_later KB.out X1
      have X2 := cell_later KB.out X2
      have X3 := cell_later KB.out X3
      have X4 := cell_later KB.out X4
      have X5 := cell_later KB.out X5
      have X6 := cell_later KB.out X6
      have X7 := cell_later KB.out X7
      have X8 := cell_later KB.out X8
      have X9 := cell_later KB.out X9
      have X10 := cell_later KB.out X10
      obtain ⟨g1', g2, g3, g4⟩ := HF.out k p x q y f m a b c d (List.mem_of_getElem? hz)
      have hlt' : (j : Int) < (L.length : Int) := by omega
      cases hk : art k p x q y f m a b c d
      · exfalso
        have := List.all_eq_true.1 HR.out _ (List.mem_of_getElem? hz)
        have e : artO (k, p, x, q, y, f, m, a, b, c, d) = false := hk
        rw [e] at this
        cases this
      · have qe := fun w => raenc_yes k p x q y f m a b c d w g1' g2 g3 g4 hk
        unfold av at qe
        have qe := hide_ qe
        have hen := (aenc_len g1' g2 g3 g4 hk).1
        have HN := hide_ (show (L.take (j + 1)).all artO = true by
          have ha : artO (k, p, x, q, y, f, m, a, b, c, d) = true := hk
          rw [List.take_add_one, hz, List.all_append, HE.out.2]
          simp [ha])
        have HT := hide_ (encA_take hz)
        clear hz hk g1' g2 g3 g4
        go_wp2_with (first | (go_at_call 75; refine (qe.out _).mono ?_; rintro e w3 ⟨r, rfl, h3, b3⟩; have K3 := KB.out.trans (b3.mono KB.out.size); have O3 := hide_ (HO.out.later b3); have h3 := hide_ h3) | (at_builtin; refine wpList_append_ownB rfl (.tmp 28) (.tmp 29) 25 rfl w.heap.size 5 i0 Tryz.underlying25 HI.out.1 HI.out.2.1 HI.out.2.2.1 HI.out.2.2.2 _ _ _ (by first | rfl | simp [Act.eval, Act.put]) O3.out.1 _ (aencL k p x q y f m a b c d) (by first | rfl | simp [Act.eval, Act.put]) h3.out (by omega) K3.size ?_; intro v4 w4 own4 g4))
        have O4 := O3.out.grow h3.out.isB_ own4
        have b4 := O3.out.growB g4 (Nat.le_refl _) K3.size
        obtain ⟨va, vc, ve⟩ := ownr_form O4.1
        subst ve
        have O4 := hide_ O4
        have hl4 : (B ++ aencL k p x q y f m a b c d).length ≤ (j + 1) * 60 := by rw [List.length_append]; omega
        have HE4 := hide_ (show B ++ aencL k p x q y f m a b c d = encA (L.take (j + 1)) ∧ (L.take (j + 1)).all artO = true from ⟨by rw [HT.out, ← HE.out.1]; rfl, HN.out⟩)
        clear own4 g4
        generalize B ++ aencL k p x q y f m a b c d = B4 at *
        go_wp2
        go_roundw
        case rel => exact ⟨j + 1, va, vc, B4, by omega, by go_num, rfl, hl4, O4, HE4, hide_ (K3.trans b4)⟩
        case measure => simp [intOf]; omega
    · have hlt' : ¬ (j : Int) < (L.length : Int) := by omega
      have e := HE.out.1
      rw [List.take_of_length_le (by omega)] at e
      have HE2 := hide_ e
      clear e
      go_wp2
      go_ret2
      exact ⟨⟨_, rfl, by rw [← HE2.out]; exact HO.out⟩, KB.out⟩
end

section
open Go Go.RowKit
set_option linter.unusedVariables false
set_option linter.unusedSimpArgs false

set_option maxRecDepth 100000 in
set_option maxHeartbeats 8000000 in
theorem rle_no (v : Value) (L : List A11) (w : World) (hL : ActAt w v L) (hF : AFit L) (h : L.length ≤ 100) (hr : L.all artO = false) :
    Calls Tryz.prog 38 #[v] w fun e w' => (e = .returned (.tuple #[.slice none 0 0, .int .i64 1])) ∧ Below w.heap.size w w' := by
  obtain ⟨s, cap, rfl, h1, h2, h3, h4⟩ := hL
  have HL := hide_ h4
  have HF := hide_ (@hF)
  have HR := hide_ hr
  have g1 : ¬ (100 : Int) < (L.length : Int) := by omega
  have hm : L.length ≤ 9223372036854775807 := by omega
  clear h1 h2 h3 h4 hF hr
  obtain ⟨i0, hi0, hz0, hz1, hz2⟩ := info_parts info8g
  have HI : Hid (Tryz.prog.info? 5 = some i0 ∧ i0.zero = some (.int .u8 0) ∧ i0.size = 1 ∧ i0.bytes = 1) := ⟨hi0, hz0, hz1, hz2⟩
  clear hi0 hz0 hz1 hz2
  have BE := hide_ (below1 w (.cells #[] 5))
  have OE : Hid (OwnB (w.alloc (.cells #[] 5)) w.heap.size (.slice (some ⟨w.heap.size, 0, none⟩) 0 0) []) := hide_ ⟨⟨rfl, .inr ⟨w.heap.size, 0, #[], rfl, Nat.le_refl _, heap_alloc_last w _, Nat.le_refl _, by decide, rfl, rfl⟩⟩, fun z hz => by simp at hz⟩
  go_enter Tryz.func38, Tryz.ntmps38
  go_wp2
  go_loopw [4, 5] (fun u i wr => ∃ (j : Nat) (ua : Option Addr) (uc : Nat) (B : List Int), j ≤ L.length ∧ i = .int .i64 j ∧ u = .slice ua B.length uc ∧ B.length ≤ j * 60 ∧ Hid (OwnB wr w.heap.size (.slice ua B.length uc) B) ∧ Hid (B = encA (L.take j) ∧ (L.take j).all artO = true) ∧ Hid (Below w.heap.size w wr)) (fun _ i _ => L.length - (intOf i).toNat)
  case atStart => exact ⟨0, _, _, [], Nat.zero_le _, rfl, rfl, by simp, OE, hide_ ⟨rfl, rfl⟩, BE⟩
  case round =>
    obtain ⟨j, ua, uc, B, hj, rfl, rfl, hBl, HO, HE, KB⟩ := hrel
    by_cases hlt : j < L.length
    · skip
      obtain ⟨⟨k, p, x, q, y, f, m, a, b, c, d⟩, hz⟩ : ∃ z, L[j]? = some z := ⟨_, List.getElem?_eq_getElem hlt⟩
      obtain ⟨bq, off, rfl, X0, X1, X2, X3, X4, X5, X6, X7, X8, X9, X10⟩ := act11 HL.out hz
      have X0 := cell_later KB.out X0
      have X1 := cell_later KB.out X1
      have X2 := cell_later KB.out X2
      have X3 := cell_later KB.out X3
      have X4 := cell_later KB.out X4
      have X5 := cell_later KB.out X5
      have X6 := cell_later KB.out X6
      have X7 := cell_later KB.out X7
      have X8 := cell_later KB.out X8
      have X9 := cell_later KB.out X9
      have X10 := cell_later KB.out X10
      obtain ⟨g1', g2, g3, g4⟩ := HF.out k p x q y f m a b c d (List.mem_of_getElem? hz)
      have hlt' : (j : Int) < (L.length : Int) := by omega
      cases hk : art k p x q y f m a b c d
      · have qe := fun w => raenc_no k p x q y f m a b c d w g1' g2 g3 g4 hk
        unfold av at qe
        have qe := hide_ qe
        clear hz hk g1' g2 g3 g4
        go_wp2_with (go_at_call 75; refine (qe.out _).mono ?_; rintro e w3 ⟨rfl, b3⟩; have K3 := KB.out.trans (b3.mono KB.out.size))
        go_ret2
        exact ⟨rfl, K3⟩
      · have qe := fun w => raenc_yes k p x q y f m a b c d w g1' g2 g3 g4 hk
        unfold av at qe
        have qe := hide_ qe
        have hen := (aenc_len g1' g2 g3 g4 hk).1
        have HN := hide_ (show (L.take (j + 1)).all artO = true by
          have ha : artO (k, p, x, q, y, f, m, a, b, c, d) = true := hk
          rw [List.take_add_one, hz, List.all_append, HE.out.2]
          simp [ha])
        have HT := hide_ (encA_take hz)
        clear hz hk g1' g2 g3 g4
        go_wp2_with (first | (go_at_call 75; refine (qe.out _).mono ?_; rintro e w3 ⟨r, rfl, h3, b3⟩; have K3 := KB.out.trans (b3.mono KB.out.size); have O3 := hide_ (HO.out.later b3); have h3 := hide_ h3) | (at_builtin; refine wpList_append_ownB rfl (.tmp 28) (.tmp 29) 25 rfl w.heap.size 5 i0 Tryz.underlying25 HI.out.1 HI.out.2.1 HI.out.2.2.1 HI.out.2.2.2 _ _ _ (by first | rfl | simp [Act.eval, Act.put]) O3.out.1 _ (aencL k p x q y f m a b c d) (by first | rfl | simp [Act.eval, Act.put]) h3.out (by omega) K3.size ?_; intro v4 w4 own4 g4))
        have O4 := O3.out.grow h3.out.isB_ own4
        have b4 := O3.out.growB g4 (Nat.le_refl _) K3.size
        obtain ⟨va, vc, ve⟩ := ownr_form O4.1
        subst ve
        have O4 := hide_ O4
        have hl4 : (B ++ aencL k p x q y f m a b c d).length ≤ (j + 1) * 60 := by rw [List.length_append]; omega
        have HE4 := hide_ (show B ++ aencL k p x q y f m a b c d = encA (L.take (j + 1)) ∧ (L.take (j + 1)).all artO = true from ⟨by rw [HT.out, ← HE.out.1]; rfl, HN.out⟩)
        clear own4 g4
        generalize B ++ aencL k p x q y f m a b c d = B4 at *
        go_wp2
        go_roundw
        case rel => exact ⟨j + 1, va, vc, B4, by omega, by go_num, rfl, hl4, O4, HE4, hide_ (K3.trans b4)⟩
        case measure => simp [intOf]; omega
    · have hlt' : ¬ (j : Int) < (L.length : Int) := by omega
      exfalso
      have e := HE.out.2
      rw [List.take_of_length_le (by omega), HR.out] at e
      cases e
end

section
open Go Go.RowKit
set_option linter.unusedVariables false
set_option linter.unusedSimpArgs false

set_option maxRecDepth 100000 in
set_option maxHeartbeats 8000000 in
theorem rlsame_any (v u : Value) (L K : List A11) (w : World) (hL : ActAt w v L) (hK : ActAt w u K) :
    Calls Tryz.prog 76 #[v, u] w fun e w' => e = .returned (.bool (sameL L K)) ∧ Below w.heap.size w w' := by
  obtain ⟨s, cap, rfl, h1, h2, h3, h4⟩ := hL
  obtain ⟨s2, cap2, rfl, k1, k2, k3, k4⟩ := hK
  have HL := hide_ h4
  have HK := hide_ k4
  have hm : L.length ≤ 9223372036854775807 := by unfold maxLen at h2; omega
  have hm2 : K.length ≤ 9223372036854775807 := by unfold maxLen at k2; omega
  clear h1 h2 h3 h4 k1 k2 k3 k4
  by_cases hlen : L.length = K.length
  · have HE := hide_ hlen
    rw [← hlen]
    have g0 : ((L.length : Int) != (L.length : Int)) = false := by simp
    clear hlen hm2
    obtain ⟨R, hR⟩ : ∃ R, sameL L K = R := ⟨_, rfl⟩
    rw [hR]
    have HR := hide_ hR
    clear hR
    go_enter Tryz.func76, Tryz.ntmps76
    go_wp2
    go_loopw [5] (fun i wr => ∃ k : Nat, k ≤ L.length ∧ i = .int .i64 k ∧ Hid (L.take k = K.take k) ∧ Below w.heap.size w wr) (fun i _ => L.length - (intOf i).toNat)
    case atStart => exact ⟨0, Nat.zero_le _, rfl, hide_ rfl, Below.refl _ _⟩
    case round =>
      obtain ⟨j, hk, rfl, HT, hb⟩ := hrel
      by_cases hlt : j < L.length
      · have hlt2 : j < K.length := by have := HE.out; omega
        obtain ⟨⟨k1, p1, x1, q1, y1, f1, m1, a1, b1, c1, d1⟩, hz1⟩ : ∃ z, L[j]? = some z := ⟨_, List.getElem?_eq_getElem hlt⟩
        obtain ⟨bq, off, rfl, X0, X1, X2, X3, X4, X5, X6, X7, X8, X9, X10⟩ := act11 HL.out hz1
        have X0 := cell_later hb X0
        have X1 := cell_later hb X1
        have X2 := cell_later hb X2
        have X3 := cell_later hb X3
        have X4 := cell_later hb X4
        have X5 := cell_later hb X5
        have X6 := cell_later hb X6
        have X7 := cell_later hb X7
        have X8 := cell_later hb X8
        have X9 := cell_later hb X9
        have X10 := cell_later hb X10
        obtain ⟨⟨k2, p2, x2, q2, y2, f2, m2, a2, b2, c2, d2⟩, hz2⟩ : ∃ z, K[j]? = some z := ⟨_, List.getElem?_eq_getElem hlt2⟩
        obtain ⟨q2', off2, rfl, Y0, Y1, Y2, Y3, Y4, Y5, Y6, Y7, Y8, Y9, Y10⟩ := act11 HK.out hz2
        have Y0 := cell_later hb Y0
        have Y1 := cell_later hb Y1
        have Y2 := cell_later hb Y2
        have Y3 := cell_later hb Y3
        have Y4 := cell_later hb Y4
        have Y5 := cell_later hb Y5
        have Y6 := cell_later hb Y6
        have Y7 := cell_later hb Y7
        have Y8 := cell_later hb Y8
        have Y9 := cell_later hb Y9
        have Y10 := cell_later hb Y10
        have HX := hide_ hz1
        have HY := hide_ hz2
        clear hz1 hz2 hlt2
        have hlt' : (j : Int) < (L.length : Int) := by omega
        have qs := fun w => rasame_any k1 p1 x1 q1 y1 f1 m1 a1 b1 c1 d1 k2 p2 x2 q2 y2 f2 m2 a2 b2 c2 d2 w
        have qs := hide_ qs
        unfold av at qs
        cases hd : sameB k1 p1 x1 q1 y1 f1 m1 a1 b1 c1 d1 k2 p2 x2 q2 y2 f2 m2 a2 b2 c2 d2
        · rw [hd] at qs
          have HD := hide_ (sameB_false _ _ _ _ _ _ _ _ _ _ _ _ _ _ _ _ _ _ _ _ _ _ hd)
          clear hd
          go_wp2_with fail
          refine wp_region_held_drew (S := (fun w' => w'.cell? ⟨bq, off + j * 11, none⟩ = some (.int .i64 k1) ∧ w'.cell? ⟨bq, off + j * 11 + 1, none⟩ = some (.int .i64 p1) ∧ w'.cell? ⟨bq, off + j * 11 + 2, none⟩ = some (.int .i64 x1) ∧ w'.cell? ⟨bq, off + j * 11 + 3, none⟩ = some (.int .i64 q1) ∧ w'.cell? ⟨bq, off + j * 11 + 4, none⟩ = some (.int .i64 y1) ∧ w'.cell? ⟨bq, off + j * 11 + 5, none⟩ = some (.int .i64 f1) ∧ w'.cell? ⟨bq, off + j * 11 + 6, none⟩ = some (.bool m1) ∧ w'.cell? ⟨bq, off + j * 11 + 7, none⟩ = some (.int .u64 (a1 : Int)) ∧ w'.cell? ⟨bq, off + j * 11 + 8, none⟩ = some (.int .u64 (b1 : Int)) ∧ w'.cell? ⟨bq, off + j * 11 + 9, none⟩ = some (.int .u64 (c1 : Int)) ∧ w'.cell? ⟨bq, off + j * 11 + 10, none⟩ = some (.int .u64 (d1 : Int)) ∧ w'.cell? ⟨q2', off2 + j * 11, none⟩ = some (.int .i64 k2) ∧ w'.cell? ⟨q2', off2 + j * 11 + 1, none⟩ = some (.int .i64 p2) ∧ w'.cell? ⟨q2', off2 + j * 11 + 2, none⟩ = some (.int .i64 x2) ∧ w'.cell? ⟨q2', off2 + j * 11 + 3, none⟩ = some (.int .i64 q2) ∧ w'.cell? ⟨q2', off2 + j * 11 + 4, none⟩ = some (.int .i64 y2) ∧ w'.cell? ⟨q2', off2 + j * 11 + 5, none⟩ = some (.int .i64 f2) ∧ w'.cell? ⟨q2', off2 + j * 11 + 6, none⟩ = some (.bool m2) ∧ w'.cell? ⟨q2', off2 + j * 11 + 7, none⟩ = some (.int .u64 (a2 : Int)) ∧ w'.cell? ⟨q2', off2 + j * 11 + 8, none⟩ = some (.int .u64 (b2 : Int)) ∧ w'.cell? ⟨q2', off2 + j * 11 + 9, none⟩ = some (.int .u64 (c2 : Int)) ∧ w'.cell? ⟨q2', off2 + j * 11 + 10, none⟩ = some (.int .u64 (d2 : Int)) ∧ Below w.heap.size w w')) (by kernel_rfl) (⟨X0, X1, X2, X3, X4, X5, X6, X7, X8, X9, X10, Y0, Y1, Y2, Y3, Y4, Y5, Y6, Y7, Y8, Y9, Y10, hb.drew⟩) (fun hHeld => ?_)
          refine takeR (i := 0) (v := ?_) rfl (by kernel_rfl) (by kernel_rfl) (by kernel_rfl) (some 17) rfl (Or.inl ⟨by rfl, ?_⟩) (fun _ _ _ h => h) (by assumption) ?_
          rotate_left
          · intro w hSw; (try dsimp only at hSw); go_simp; (try with_reducible rfl)
          simp only [Act.put, List.setIfInBounds_toArray, List.set_cons_zero, List.set_cons_succ]
          refine takeR (i := 1) (v := ?_) rfl (by kernel_rfl) (by kernel_rfl) (by kernel_rfl) (some 18) rfl (Or.inl ⟨by rfl, ?_⟩) (fun _ _ _ h => h) (by assumption) ?_
          rotate_left
          · intro w hSw; (try dsimp only at hSw); go_simp; (try with_reducible rfl)
          simp only [Act.put, List.setIfInBounds_toArray, List.set_cons_zero, List.set_cons_succ]
          refine takeR (i := 2) (v := ?_) rfl (by kernel_rfl) (by kernel_rfl) (by kernel_rfl) (some 19) rfl (Or.inl ⟨by rfl, ?_⟩) (fun _ _ _ h => h) (by assumption) ?_
          rotate_left
          · intro w hSw; (try dsimp only at hSw); go_simp; (try with_reducible rfl)
          simp only [Act.put, List.setIfInBounds_toArray, List.set_cons_zero, List.set_cons_succ]
          refine takeR (i := 3) (v := ?_) rfl (by kernel_rfl) (by kernel_rfl) (by kernel_rfl) (some 20) rfl (Or.inl ⟨by rfl, ?_⟩) (fun _ _ _ h => h) (by assumption) ?_
          rotate_left
          · intro w hSw; (try dsimp only at hSw); go_simp; (try with_reducible rfl)
          simp only [Act.put, List.setIfInBounds_toArray, List.set_cons_zero, List.set_cons_succ]
          refine takeR (i := 4) (v := ?_) rfl (by kernel_rfl) (by kernel_rfl) (by kernel_rfl) (some 21) rfl (Or.inl ⟨by rfl, ?_⟩) (fun _ _ _ h => h) (by assumption) ?_
          rotate_left
          · intro w hSw; (try dsimp only at hSw); go_simp; (try with_reducible rfl)
          simp only [Act.put, List.setIfInBounds_toArray, List.set_cons_zero, List.set_cons_succ]
          refine takeR (i := 5) (v := ?_) rfl (by kernel_rfl) (by kernel_rfl) (by kernel_rfl) (some 22) rfl (Or.inl ⟨by rfl, ?_⟩) (fun _ _ _ h => h) (by assumption) ?_
          rotate_left
          · intro w hSw; (try dsimp only at hSw); go_simp; (try with_reducible rfl)
          simp only [Act.put, List.setIfInBounds_toArray, List.set_cons_zero, List.set_cons_succ]
          refine takeR (i := 6) (v := ?_) rfl (by kernel_rfl) (by kernel_rfl) (by kernel_rfl) (some 23) rfl (Or.inl ⟨by rfl, ?_⟩) (fun _ _ _ h => h) (by assumption) ?_
          rotate_left
          · intro w hSw; (try dsimp only at hSw); go_simp; (try with_reducible rfl)
          simp only [Act.put, List.setIfInBounds_toArray, List.set_cons_zero, List.set_cons_succ]
          refine takeR (i := 7) (v := ?_) rfl (by kernel_rfl) (by kernel_rfl) (by kernel_rfl) (some 24) rfl (Or.inl ⟨by rfl, ?_⟩) (fun _ _ _ h => h) (by assumption) ?_
          rotate_left
          · intro w hSw; (try dsimp only at hSw); go_simp; (try with_reducible rfl)
          simp only [Act.put, List.setIfInBounds_toArray, List.set_cons_zero, List.set_cons_succ]
          refine wpAnyH_ready (rs := [8]) (by kernel_rfl) (by simp) ?_
          refine AllReadyH.cons rfl (fun K hK => ?_) (AllReadyH.nil)
          go_simp
          refine (qs.out _).mono ?_
          rintro e w5 ⟨rfl, b5⟩
          refine hK.out _ _ (⟨cell_later b5 hHeld.1, cell_later b5 hHeld.2.1, cell_later b5 hHeld.2.2.1, cell_later b5 hHeld.2.2.2.1, cell_later b5 hHeld.2.2.2.2.1, cell_later b5 hHeld.2.2.2.2.2.1, cell_later b5 hHeld.2.2.2.2.2.2.1, cell_later b5 hHeld.2.2.2.2.2.2.2.1, cell_later b5 hHeld.2.2.2.2.2.2.2.2.1, cell_later b5 hHeld.2.2.2.2.2.2.2.2.2.1, cell_later b5 hHeld.2.2.2.2.2.2.2.2.2.2.1, cell_later b5 hHeld.2.2.2.2.2.2.2.2.2.2.2.1, cell_later b5 hHeld.2.2.2.2.2.2.2.2.2.2.2.2.1, cell_later b5 hHeld.2.2.2.2.2.2.2.2.2.2.2.2.2.1, cell_later b5 hHeld.2.2.2.2.2.2.2.2.2.2.2.2.2.2.1, cell_later b5 hHeld.2.2.2.2.2.2.2.2.2.2.2.2.2.2.2.1, cell_later b5 hHeld.2.2.2.2.2.2.2.2.2.2.2.2.2.2.2.2.1, cell_later b5 hHeld.2.2.2.2.2.2.2.2.2.2.2.2.2.2.2.2.2.1, cell_later b5 hHeld.2.2.2.2.2.2.2.2.2.2.2.2.2.2.2.2.2.2.1, cell_later b5 hHeld.2.2.2.2.2.2.2.2.2.2.2.2.2.2.2.2.2.2.2.1, cell_later b5 hHeld.2.2.2.2.2.2.2.2.2.2.2.2.2.2.2.2.2.2.2.2.1, cell_later b5 hHeld.2.2.2.2.2.2.2.2.2.2.2.2.2.2.2.2.2.2.2.2.2.1, hHeld.2.2.2.2.2.2.2.2.2.2.2.2.2.2.2.2.2.2.2.2.2.2.trans (b5.mono hHeld.2.2.2.2.2.2.2.2.2.2.2.2.2.2.2.2.2.2.2.2.2.2.size)⟩) (fun hHeld => ?_)
          clear hK K
          try simp only [Act.put, List.setIfInBounds_toArray, List.set_cons_zero, List.set_cons_succ]
          refine takeR (i := 9) (v := ?_) rfl (by kernel_rfl) (by kernel_rfl) (by kernel_rfl) (some 26) rfl (Or.inl ⟨by rfl, ?_⟩) (fun _ _ _ h => h) (by assumption) ?_
          rotate_left
          · intro w hSw; (try dsimp only at hSw); go_simp; (try with_reducible rfl)
          simp only [Act.put, List.setIfInBounds_toArray, List.set_cons_zero, List.set_cons_succ]
          refine wpAnyH_done (by kernel_rfl) ?_ _
          go_wp2
          go_ret
          refine ⟨?_, hHeld.2.2.2.2.2.2.2.2.2.2.2.2.2.2.2.2.2.2.2.2.2.2⟩
          rw [← HR.out, sameL_false (take_diffA HX.out HY.out HD.out)]
          rfl
        · rw [hd] at qs
          have HD := hide_ (sameB_true _ _ _ _ _ _ _ _ _ _ _ _ _ _ _ _ _ _ _ _ _ _ hd)
          clear hd
          go_wp2_with fail
          refine wp_region_held_drew (S := (fun w' => w'.cell? ⟨bq, off + j * 11, none⟩ = some (.int .i64 k1) ∧ w'.cell? ⟨bq, off + j * 11 + 1, none⟩ = some (.int .i64 p1) ∧ w'.cell? ⟨bq, off + j * 11 + 2, none⟩ = some (.int .i64 x1) ∧ w'.cell? ⟨bq, off + j * 11 + 3, none⟩ = some (.int .i64 q1) ∧ w'.cell? ⟨bq, off + j * 11 + 4, none⟩ = some (.int .i64 y1) ∧ w'.cell? ⟨bq, off + j * 11 + 5, none⟩ = some (.int .i64 f1) ∧ w'.cell? ⟨bq, off + j * 11 + 6, none⟩ = some (.bool m1) ∧ w'.cell? ⟨bq, off + j * 11 + 7, none⟩ = some (.int .u64 (a1 : Int)) ∧ w'.cell? ⟨bq, off + j * 11 + 8, none⟩ = some (.int .u64 (b1 : Int)) ∧ w'.cell? ⟨bq, off + j * 11 + 9, none⟩ = some (.int .u64 (c1 : Int)) ∧ w'.cell? ⟨bq, off + j * 11 + 10, none⟩ = some (.int .u64 (d1 : Int)) ∧ w'.cell? ⟨q2', off2 + j * 11, none⟩ = some (.int .i64 k2) ∧ w'.cell? ⟨q2', off2 + j * 11 + 1, none⟩ = some (.int .i64 p2) ∧ w'.cell? ⟨q2', off2 + j * 11 + 2, none⟩ = some (.int .i64 x2) ∧ w'.cell? ⟨q2', off2 + j * 11 + 3, none⟩ = some (.int .i64 q2) ∧ w'.cell? ⟨q2', off2 + j * 11 + 4, none⟩ = some (.int .i64 y2) ∧ w'.cell? ⟨q2', off2 + j * 11 + 5, none⟩ = some (.int .i64 f2) ∧ w'.cell? ⟨q2', off2 + j * 11 + 6, none⟩ = some (.bool m2) ∧ w'.cell? ⟨q2', off2 + j * 11 + 7, none⟩ = some (.int .u64 (a2 : Int)) ∧ w'.cell? ⟨q2', off2 + j * 11 + 8, none⟩ = some (.int .u64 (b2 : Int)) ∧ w'.cell? ⟨q2', off2 + j * 11 + 9, none⟩ = some (.int .u64 (c2 : Int)) ∧ w'.cell? ⟨q2', off2 + j * 11 + 10, none⟩ = some (.int .u64 (d2 : Int)) ∧ Below w.heap.size w w')) (by kernel_rfl) (⟨X0, X1, X2, X3, X4, X5, X6, X7, X8, X9, X10, Y0, Y1, Y2, Y3, Y4, Y5, Y6, Y7, Y8, Y9, Y10, hb.drew⟩) (fun hHeld => ?_)
          refine takeR (i := 0) (v := ?_) rfl (by kernel_rfl) (by kernel_rfl) (by kernel_rfl) (some 17) rfl (Or.inl ⟨by rfl, ?_⟩) (fun _ _ _ h => h) (by assumption) ?_
          rotate_left
          · intro w hSw; (try dsimp only at hSw); go_simp; (try with_reducible rfl)
          simp only [Act.put, List.setIfInBounds_toArray, List.set_cons_zero, List.set_cons_succ]
          refine takeR (i := 1) (v := ?_) rfl (by kernel_rfl) (by kernel_rfl) (by kernel_rfl) (some 18) rfl (Or.inl ⟨by rfl, ?_⟩) (fun _ _ _ h => h) (by assumption) ?_
          rotate_left
          · intro w hSw; (try dsimp only at hSw); go_simp; (try with_reducible rfl)
          simp only [Act.put, List.setIfInBounds_toArray, List.set_cons_zero, List.set_cons_succ]
          refine takeR (i := 2) (v := ?_) rfl (by kernel_rfl) (by kernel_rfl) (by kernel_rfl) (some 19) rfl (Or.inl ⟨by rfl, ?_⟩) (fun _ _ _ h => h) (by assumption) ?_
          rotate_left
          · intro w hSw; (try dsimp only at hSw); go_simp; (try with_reducible rfl)
          simp only [Act.put, List.setIfInBounds_toArray, List.set_cons_zero, List.set_cons_succ]
          refine takeR (i := 3) (v := ?_) rfl (by kernel_rfl) (by kernel_rfl) (by kernel_rfl) (some 20) rfl (Or.inl ⟨by rfl, ?_⟩) (fun _ _ _ h => h) (by assumption) ?_
          rotate_left
          · intro w hSw; (try dsimp only at hSw); go_simp; (try with_reducible rfl)
          simp only [Act.put, List.setIfInBounds_toArray, List.set_cons_zero, List.set_cons_succ]
          refine takeR (i := 4) (v := ?_) rfl (by kernel_rfl) (by kernel_rfl) (by kernel_rfl) (some 21) rfl (Or.inl ⟨by rfl, ?_⟩) (fun _ _ _ h => h) (by assumption) ?_
          rotate_left
          · intro w hSw; (try dsimp only at hSw); go_simp; (try with_reducible rfl)
          simp only [Act.put, List.setIfInBounds_toArray, List.set_cons_zero, List.set_cons_succ]
          refine takeR (i := 5) (v := ?_) rfl (by kernel_rfl) (by kernel_rfl) (by kernel_rfl) (some 22) rfl (Or.inl ⟨by rfl, ?_⟩) (fun _ _ _ h => h) (by assumption) ?_
          rotate_left
          · intro w hSw; (try dsimp only at hSw); go_simp; (try with_reducible rfl)
          simp only [Act.put, List.setIfInBounds_toArray, List.set_cons_zero, List.set_cons_succ]
          refine takeR (i := 6) (v := ?_) rfl (by kernel_rfl) (by kernel_rfl) (by kernel_rfl) (some 23) rfl (Or.inl ⟨by rfl, ?_⟩) (fun _ _ _ h => h) (by assumption) ?_
          rotate_left
          · intro w hSw; (try dsimp only at hSw); go_simp; (try with_reducible rfl)
          simp only [Act.put, List.setIfInBounds_toArray, List.set_cons_zero, List.set_cons_succ]
          refine takeR (i := 7) (v := ?_) rfl (by kernel_rfl) (by kernel_rfl) (by kernel_rfl) (some 24) rfl (Or.inl ⟨by rfl, ?_⟩) (fun _ _ _ h => h) (by assumption) ?_
          rotate_left
          · intro w hSw; (try dsimp only at hSw); go_simp; (try with_reducible rfl)
          simp only [Act.put, List.setIfInBounds_toArray, List.set_cons_zero, List.set_cons_succ]
          refine wpAnyH_ready (rs := [8]) (by kernel_rfl) (by simp) ?_
          refine AllReadyH.cons rfl (fun K hK => ?_) (AllReadyH.nil)
          go_simp
          refine (qs.out _).mono ?_
          rintro e w5 ⟨rfl, b5⟩
          refine hK.out _ _ (⟨cell_later b5 hHeld.1, cell_later b5 hHeld.2.1, cell_later b5 hHeld.2.2.1, cell_later b5 hHeld.2.2.2.1, cell_later b5 hHeld.2.2.2.2.1, cell_later b5 hHeld.2.2.2.2.2.1, cell_later b5 hHeld.2.2.2.2.2.2.1, cell_later b5 hHeld.2.2.2.2.2.2.2.1, cell_later b5 hHeld.2.2.2.2.2.2.2.2.1, cell_later b5 hHeld.2.2.2.2.2.2.2.2.2.1, cell_later b5 hHeld.2.2.2.2.2.2.2.2.2.2.1, cell_later b5 hHeld.2.2.2.2.2.2.2.2.2.2.2.1, cell_later b5 hHeld.2.2.2.2.2.2.2.2.2.2.2.2.1, cell_later b5 hHeld.2.2.2.2.2.2.2.2.2.2.2.2.2.1, cell_later b5 hHeld.2.2.2.2.2.2.2.2.2.2.2.2.2.2.1, cell_later b5 hHeld.2.2.2.2.2.2.2.2.2.2.2.2.2.2.2.1, cell_later b5 hHeld.2.2.2.2.2.2.2.2.2.2.2.2.2.2.2.2.1, cell_later b5 hHeld.2.2.2.2.2.2.2.2.2.2.2.2.2.2.2.2.2.1, cell_later b5 hHeld.2.2.2.2.2.2.2.2.2.2.2.2.2.2.2.2.2.2.1, cell_later b5 hHeld.2.2.2.2.2.2.2.2.2.2.2.2.2.2.2.2.2.2.2.1, cell_later b5 hHeld.2.2.2.2.2.2.2.2.2.2.2.2.2.2.2.2.2.2.2.2.1, cell_later b5 hHeld.2.2.2.2.2.2.2.2.2.2.2.2.2.2.2.2.2.2.2.2.2.1, hHeld.2.2.2.2.2.2.2.2.2.2.2.2.2.2.2.2.2.2.2.2.2.2.trans (b5.mono hHeld.2.2.2.2.2.2.2.2.2.2.2.2.2.2.2.2.2.2.2.2.2.2.size)⟩) (fun hHeld => ?_)
          clear hK K
          try simp only [Act.put, List.setIfInBounds_toArray, List.set_cons_zero, List.set_cons_succ]
          refine takeR (i := 9) (v := ?_) rfl (by kernel_rfl) (by kernel_rfl) (by kernel_rfl) (some 26) rfl (Or.inl ⟨by rfl, ?_⟩) (fun _ _ _ h => h) (by assumption) ?_
          rotate_left
          · intro w hSw; (try dsimp only at hSw); go_simp; (try with_reducible rfl)
          simp only [Act.put, List.setIfInBounds_toArray, List.set_cons_zero, List.set_cons_succ]
          refine wpAnyH_done (by kernel_rfl) ?_ _
          go_wp2
          go_roundw
          case rel => exact ⟨j + 1, by omega, by go_num, hide_ (take_sameA HT.out HX.out HY.out HD.out), hHeld.2.2.2.2.2.2.2.2.2.2.2.2.2.2.2.2.2.2.2.2.2.2⟩
          case measure => simp [intOf]; omega
      · have hlt' : ¬ (j : Int) < (L.length : Int) := by omega
        go_wp2
        go_ret
        refine ⟨?_, hb⟩
        have e := HT.out
        rw [List.take_of_length_le (by omega), List.take_of_length_le (by have := HE.out; omega)] at e
        rw [← HR.out, sameL_true e]
        rfl
  · have g0 : ((L.length : Int) != (K.length : Int)) = true := by simp; omega
    have g1 : ((L.length : Int) == (K.length : Int)) = false := by simp; omega
    have e : ¬ L = K := fun h => hlen (by rw [h])
    rw [sameL_false e]
    go_enter Tryz.func76, Tryz.ntmps76
    go_wp2
    go_ret
    exact ⟨rfl, Below.refl _ _⟩
end

end Go.Proofs.YthhijfphfcmniaaGreat
