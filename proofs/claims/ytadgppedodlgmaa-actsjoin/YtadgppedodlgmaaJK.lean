import Derived.Test.YtadgppedodlgmaaAa
import Derived.Test.YtadgppedodlgmaaOg
import Derived.Test.YtadgppedodlgmaaOz
import Derived.Test.YtadgppedodlgmaaOzc
import Derived.Deep.RegionHeld3
import Derived.Deep.RegionWith
import Derived.Deep.MidRow
import Derived.Deep.Cut
import Derived.Laws.CopyOwn
import Derived.Test.YtadgppedodlgmaaOc
import Derived.Test.YtadgppedodlgmaaAe
namespace Go.Proofs.Ytadgppedodlgmaa
section
open Go Go.RowKit
set_option linter.unusedVariables false
set_option linter.unusedSimpArgs false

/-- bytes that are one's own: the blocks from base on -/
def OwnB (w : World) (base : Nat) (v : Value) (l : List Int) : Prop := w.ownsRow base 5 1 v l.length (u8s l) ∧ isB l
theorem OwnB.bytes {w : World} {base : Nat} {v : Value} {l : List Int} (h : OwnB w base v l) : Bytes w v l := Bytes.ofOwn h.1 h.2
theorem OwnB.later {w w' : World} {base : Nat} {v : Value} {l : List Int} (h : OwnB w base v l) (hb : Below w.heap.size w w') : OwnB w' base v l := by
  refine ⟨⟨h.1.1, ?_⟩, h.2⟩
  rcases h.1.2 with hn | ⟨g, cap, cur, rfl, hbg, hg, rest⟩
  · exact .inl hn
  · refine .inr ⟨g, cap, cur, rfl, hbg, ?_, rest⟩
    rw [hb.block g (Array.getElem?_eq_some_iff.1 hg).1]
    exact hg
theorem OwnB.mono {w : World} {base base' : Nat} {v : Value} {l : List Int} (h : OwnB w base v l) (hb : base' ≤ base) : OwnB w base' v l := by
  refine ⟨⟨h.1.1, ?_⟩, h.2⟩
  rcases h.1.2 with hn | ⟨g, cap, cur, rfl, hbg, rest⟩
  · exact .inl hn
  · exact .inr ⟨g, cap, cur, rfl, Nat.le_trans hb hbg, rest⟩
theorem OwnB.form {w : World} {base : Nat} {v : Value} {l : List Int} (h : OwnB w base v l) (h0 : 0 < l.length) : ∃ g cap, v = .slice (some ⟨g, 0, none⟩) l.length cap ∧ base ≤ g ∧ g < w.heap.size ∧ l.length ≤ cap ∧ cap ≤ maxLen := by
  rcases h.1.2 with ⟨_, hn⟩ | ⟨g, cap, cur, rfl, hbg, hg, hnc, hcm, _⟩
  · omega
  · exact ⟨g, cap, rfl, hbg, (Array.getElem?_eq_some_iff.1 hg).1, hnc, hcm⟩
theorem OwnB.grow {w w' : World} {base : Nat} {v v' : Value} {l m : List Int} (h : OwnB w base v l) (hm : isB m) (ho : w'.ownsRow base 5 1 v' (l.length + m.length) (u8s l ++ u8s m)) : OwnB w' base v' (l ++ m) := by
  refine ⟨?_, h.2.app hm⟩
  rw [u8s_append, List.length_append]
  exact ho
theorem OwnB.growB {w w' : World} {base : Nat} {v : Value} {l : List Int} {n : Nat} (h : OwnB w base v l) (hg : w.grownBy w' v.ownBlock) (hn : n ≤ base) (hs : n ≤ w.heap.size) : Below n w w' :=
  below_grown hg n hs (fun k hk => Nat.le_trans hn (h.1.lt k hk).1)
theorem isB_zeros (m : Nat) : isB (List.replicate m (0 : Int)) := by
  intro z hz
  rw [(List.mem_replicate.1 hz).2]
  omega
/-- copy(b[2:], s) of two bytes where b is one's own -/
theorem step_copy_ownB {P : Program} {w : World} {ops : Array Oper} {o : Oper} {a : Act} {K : Act → World → Prop} {Q : Exit → Act → World → Prop} {E : Prop} (hgd : o.guard = none) (d s : Operand) (t : TypeId)
    (ho : o.op = .call { callee := .builtin .copy, args := #[d, s], argTypes := #[t, t] }) (hu : P.underlying t = some (.slice 5)) (hsz : (P.info? 5).map (·.size) = some 1)
    (base g cap : Nat) (l m : List Int) (u : Value) (dc : Nat) (hd : a.eval d = .slice (some ⟨g, 2, none⟩) (l.length - 2) dc) (hs : a.eval s = u) (hB : Bytes w u m) (hm : m.length = 2)
    (hown : OwnB w base (.slice (some ⟨g, 0, none⟩) l.length cap) l) (h4 : 4 ≤ l.length)
    (h : ∀ w', OwnB w' base (.slice (some ⟨g, 0, none⟩) l.length cap) (l.take 2 ++ m ++ l.drop 4) → Below base w w' → K (a.put o.dst (goInt 2)) w') :
    if Region.wanted o (yielded ops a.tmps) = true then Oper.wp P o a w K Q else E := by
  obtain ⟨sp, scap, rfl, h1, h2, h3, h4', h5⟩ := hB
  rcases hown.1.2 with ⟨_, hn⟩ | ⟨g', cap', cur, e, hbg, hg, hnc, hcm, hcs, htk⟩
  · omega
  · injection e with e1 e2 e3
    injection e1 with e1
    injection e1 with e1
    subst e1 e3
    have hcl : cur.toList.length = cap := by simp; omega
    refine step_copy_splice hgd d s t t ho 5 hu hsz (some ⟨g, 2, none⟩) sp (l.length - 2) dc m.length scap hd hs g 2 cur.toList 5 (by simpa using hg) (u8s m) (by rw [u8s_length, hm]; exact (Nat.min_eq_left (by omega : 2 ≤ l.length - 2)).symm) (fun _ => ⟨rfl, ?_⟩) (by rw [u8s_length, hm, hcl]; omega) (u8s_one m) base w (Below.refl _ _) hbg ?_
    · cases sp with
      | none => exact absurd (h4' rfl) (by omega)
      | some ad =>
        refine ⟨ad, rfl, ?_⟩
        intro j v hv
        unfold u8s at hv
        rw [List.getElem?_map] at hv
        cases hj : m[j]? with
        | none => rw [hj] at hv; cases hv
        | some z => rw [hj] at hv; cases hv; exact h5 ad rfl j z hj
    · intro w' hw' bw
      rw [u8s_length, hm]
      have hl2 : (l.take 2 ++ m ++ l.drop 4).length = l.length := by simp [hm]; omega
      refine h w' ⟨?_, ?_⟩ bw
      · rw [hl2]
        refine ⟨by rw [u8s_length, hl2]; omega, .inr ⟨g, cap, _, rfl, hbg, hw', hnc, hcm, ?_, ?_⟩⟩
        · simp [splice, u8s_length, hm]; omega
        · have e0 : u8s (l.take 2 ++ m ++ l.drop 4) = (u8s l).take 2 ++ u8s m ++ (u8s l).drop 4 := by unfold u8s; simp
          rw [e0, ← htk]
          simp only [splice, u8s_length, hm, Nat.mul_one]
          apply List.ext_getElem?
          intro j
          simp only [List.getElem?_take, List.getElem?_append, List.length_append, List.length_take, List.getElem?_drop, u8s_length, hm, hcl]
          repeat' split
          all_goals first | rfl | omega | skip
          all_goals first | (congr 1; omega) | skip
      · intro z hz
        rcases List.mem_append.1 hz with h6 | h6
        · rcases List.mem_append.1 h6 with h7 | h7
          · exact hown.2 z (List.mem_of_mem_take h7)
          · exact h3 z h7
        · exact hown.2 z (List.mem_of_mem_drop h6)
end

section
open Go Go.RowKit
set_option linter.unusedVariables false
set_option linter.unusedSimpArgs false

set_option maxRecDepth 100000 in
set_option maxHeartbeats 2000000 in
theorem oenc_no (f : Int) (m : Bool) (a b c d : Nat) (w : World) (ha : a < 18446744073709551616) (hb : b < 18446744073709551616) (hc : c < 18446744073709551616) (hd : d < 18446744073709551616) (h : rgt f m a b c d = false) :
    Calls Try.prog 64 #[ov f m a b c d] w fun e w' => e = .returned (.tuple #[.slice none 0 0, .int .i64 1]) ∧ Below w.heap.size w w' := by
  have A0 := hide_ (AB.at0 w 44 [.int .i64 f, .bool m, .int .u64 (a : Int), .int .u64 (b : Int), .int .u64 (c : Int), .int .u64 (d : Int)])
  have B0 := hide_ (below1 w (.cells #[.int .i64 f, .bool m, .int .u64 (a : Int), .int .u64 (b : Int), .int .u64 (c : Int), .int .u64 (d : Int)] 44))
  have q1 := fun w => oright_any f m a b c d w ha hb hc hd
  rw [h] at q1
  have q1 := hide_ q1
  obtain ⟨c0, c1, c2, c3, c4, c5, -⟩ := A0.out.six
  unfold ov at *
  clear ha hb hc hd h
  go_enter Try.func64, Try.ntmps64
  go_wp2_with (go_at_call 60; refine (q1.out _).mono ?_; rintro e w1 ⟨rfl, b1⟩)
  go_ret2
  exact ⟨rfl, B0.out.trans (b1.mono B0.out.size)⟩

set_option maxRecDepth 100000 in
set_option maxHeartbeats 4000000 in
theorem oenc_yes0 (f : Int) (a b c d : Nat) (w : World) (ha : a < 18446744073709551616) (hb : b < 18446744073709551616) (hc : c < 18446744073709551616) (hd : d < 18446744073709551616) (h : rgt f false a b c d = true) :
    Calls Try.prog 64 #[ov f false a b c d] w fun e w' => ∃ r, e = .returned (.tuple #[r, .int .i64 0]) ∧ Bytes w' r (encL f false a b c d) ∧ Below w.heap.size w w' := by
  have hf := rgt_fok h
  have A0 := hide_ (AB.at0 w 44 [.int .i64 f, .bool false, .int .u64 (a : Int), .int .u64 (b : Int), .int .u64 (c : Int), .int .u64 (d : Int)])
  have B0 := hide_ (below1 w (.cells #[.int .i64 f, .bool false, .int .u64 (a : Int), .int .u64 (b : Int), .int .u64 (c : Int), .int .u64 (d : Int)] 44))
  have q1 := fun w => oright_any f false a b c d w ha hb hc hd
  rw [h] at q1
  have q1 := hide_ q1
  have q2 := hide_ (fun w => fid_any f w)
  have q3 : Hid (∀ w, Calls Try.prog 88 #[ov f false a b c d] w fun e w' => e = .returned (.int .i64 ((fsize f : Int))) ∧ Below w.heap.size w w') := hide_ (fun w => follow_any f false a b c d w)
  have q4 := hide_ (fun w => fsize_any f w)
  have hs := fsize_le f
  obtain ⟨hx1, hx2⟩ := fid_range f hf
  have p1 := hide_ (fun w => nput_any (.slice none 0 0) [] 32768 2 w (Bytes.nil w) (by simp) (by decide) (isB_spl2 _))
  have e1 : kind f false = 2 * fid f := rfl
  have e2 : foll f false = (fsize f : Int) := rfl
  have p2 : Hid (∀ v w, Bytes w v ([] ++ spl 32768 2) → Calls Try.prog 39 #[v, .int .i64 (2 * fid f), .int .i64 1] w fun e w' => ∃ r, e = .returned r ∧ Bytes w' r ([] ++ spl 32768 2 ++ spl (kind f false) 1) ∧ Below w.heap.size w w') := hide_ (fun v w hB => by
    rw [← e1]
    exact nput_any v _ (kind f false) 1 w hB (by simp [spl_len2]) (enc_bound1 f false hf) (isB_spl1 _))
  have p3 : Hid (∀ v w, Bytes w v ([] ++ spl 32768 2 ++ spl (kind f false) 1) → Calls Try.prog 39 #[v, .int .i64 ((fsize f : Int)), .int .i64 1] w fun e w' => ∃ r, e = .returned r ∧ Bytes w' r ([] ++ spl 32768 2 ++ spl (kind f false) 1 ++ spl (foll f false) 1) ∧ Below w.heap.size w w') := hide_ (fun v w hB => by
    rw [← e2]
    exact nput_any v _ (foll f false) 1 w hB (by simp [spl_len2, spl_len1]) (enc_bound2 f false) (isB_spl1 _))
  have p4 := hide_ (fun v w hB => wput_any v ([] ++ spl 32768 2 ++ spl (kind f false) 1 ++ spl (foll f false) 1) a b (fsize f : Int) w hB (by simp [spl_len2, spl_len1]) ha hb)
  have p5 := hide_ (fun v w hB => wput_any v ([] ++ spl 32768 2 ++ spl (kind f false) 1 ++ spl (foll f false) 1 ++ wtail a b (fsize f : Int)) c d (fsize f : Int) w hB (by simp [spl_len2, spl_len1, wtail_length]; have := cl_le (fsize f : Int) 16; omega) hc hd)
  have HL : Hid ([] ++ spl 32768 2 ++ spl (kind f false) 1 ++ spl (foll f false) 1 ++ wtail a b (fsize f : Int) = encL f false a b c d) := hide_ (by simp [encL])
  clear e1 e2
  generalize encL f false a b c d = L at *
  generalize [] ++ spl 32768 2 ++ spl (kind f false) 1 ++ spl (foll f false) 1 ++ wtail a b (fsize f : Int) ++ wtail c d (fsize f : Int) = L5 at *
  generalize [] ++ spl 32768 2 ++ spl (kind f false) 1 ++ spl (foll f false) 1 ++ wtail a b (fsize f : Int) = L4 at *
  generalize [] ++ spl 32768 2 ++ spl (kind f false) 1 ++ spl (foll f false) 1 = L3 at *
  generalize [] ++ spl 32768 2 ++ spl (kind f false) 1 = L2 at *
  generalize [] ++ spl 32768 2 = L1 at *
  generalize fid f = x at *
  generalize fsize f = s at *
  have hw1 : IntKind.i64.wrap (2 * x) = 2 * x := by rw [IntKind.wrap_i64]; omega
  have hw2 : IntKind.i64.wrap (2 * x + 1) = 2 * x + 1 := by rw [IntKind.wrap_i64]; omega
  obtain ⟨c0, c1, c2, c3, c4, c5, -⟩ := A0.out.six
  unfold ov at *
  unfold wd at p4 p5
  clear ha hb hc hd h hf
  go_enter Try.func64, Try.ntmps64
  go_wp2_with (first | (go_at_call 60; refine (q1.out _).mono ?_; rintro e w1 ⟨rfl, k1⟩; obtain ⟨y10, y11, y12, y13, y14, y15, -⟩ := (A0.out.later k1).six) | (go_at_call 87; refine (q2.out _).mono ?_; rintro e w2 ⟨rfl, b2⟩; have k2 := k1.trans (b2.mono k1.size); obtain ⟨y20, y21, y22, y23, y24, y25, -⟩ := (A0.out.later k2).six) | (go_at_call_of 39 (Value.int IntKind.i64 32768); refine (p1.out _).mono ?_; rintro e w3 ⟨r1, rfl, h1, b3⟩; have h1 := hide_ h1; have k3 := k2.trans (b3.mono k2.size); obtain ⟨y30, y31, y32, y33, y34, y35, -⟩ := (A0.out.later k3).six) | (go_at_call_of 39 r1; refine (p2.out _ _ h1.out).mono ?_; rintro e w4 ⟨r2, rfl, h2, b4⟩; have h2 := hide_ h2; have k4 := k3.trans (b4.mono k3.size); obtain ⟨y40, y41, y42, y43, y44, y45, -⟩ := (A0.out.later k4).six) | (go_at_call 88; refine (q3.out _).mono ?_; rintro e w5 ⟨rfl, b5⟩; have h2b := hide_ (h2.out.later b5); have k5 := k4.trans (b5.mono k4.size); obtain ⟨y50, y51, y52, y53, y54, y55, -⟩ := (A0.out.later k5).six) | (go_at_call_of 39 r2; refine (p3.out _ _ h2b.out).mono ?_; rintro e w6 ⟨r3, rfl, h3, b6⟩; have h3 := hide_ h3; have k6 := k5.trans (b6.mono k5.size); obtain ⟨y60, y61, y62, y63, y64, y65, -⟩ := (A0.out.later k6).six))
  obtain ⟨g0, g1, g2, g3, g4, g5, -⟩ := (A0.out.later k6).six
  go_region_held3 (fun w' => w'.cell? ⟨w.heap.size, 2, none⟩ = some (.int .u64 (a : Int)) ∧ w'.cell? ⟨w.heap.size, 3, none⟩ = some (.int .u64 (b : Int)) ∧ w'.cell? ⟨w.heap.size, 0, none⟩ = some (.int .i64 f) ∧ Below w6.heap.size w6 w')
    (first | (with_reducible exact kN3 b8 (by assumption)) | (with_reducible exact kN3 b7 (by assumption)) | (exact ⟨g2, g3, g0, (Below.refl _ _).drew⟩))
    (first | (go_at_call 90; refine (q4.out _).mono ?_; rintro e w7 ⟨rfl, b7⟩; have hx7 := hide_ ((h3.out.later (Below.refl _ _).drew).later b7)) | (go_at_call 89; refine (p4.out _ _ hx7.out).mono ?_; rintro e w8 ⟨r4, rfl, h8, b8⟩; have h8 := hide_ h8))
  rename_i hH
  have j8 := hH.2.2.2
  clear hH g0 g1 g2 g3 g4 g5
  have k8 := k6.trans (j8.mono k6.size)
  clear y10 y11 y12 y13 y14 y15 y20 y21 y22 y23 y24 y25 y30 y31 y32 y33 y34 y35 y40 y41 y42 y43 y44 y45 y50 y51 y52 y53 y54 y55 y60 y61 y62 y63 y64 y65
  obtain ⟨g0, g1, g2, g3, g4, g5, -⟩ := (A0.out.later k8).six
  go_wp2_with fail
  go_ret2
  exact ⟨_, rfl, by rw [← HL.out]; exact h8.out, B0.out.trans (k8.mono B0.out.size)⟩
end

section
open Go Go.RowKit
set_option linter.unusedVariables false
set_option linter.unusedSimpArgs false

set_option maxRecDepth 100000 in
set_option maxHeartbeats 4000000 in
theorem oenc_yes1 (f : Int) (a b c d : Nat) (w : World) (ha : a < 18446744073709551616) (hb : b < 18446744073709551616) (hc : c < 18446744073709551616) (hd : d < 18446744073709551616) (h : rgt f true a b c d = true) :
    Calls Try.prog 64 #[ov f true a b c d] w fun e w' => ∃ r, e = .returned (.tuple #[r, .int .i64 0]) ∧ Bytes w' r (encL f true a b c d) ∧ Below w.heap.size w w' := by
  have hf := rgt_fok h
  have A0 := hide_ (AB.at0 w 44 [.int .i64 f, .bool true, .int .u64 (a : Int), .int .u64 (b : Int), .int .u64 (c : Int), .int .u64 (d : Int)])
  have B0 := hide_ (below1 w (.cells #[.int .i64 f, .bool true, .int .u64 (a : Int), .int .u64 (b : Int), .int .u64 (c : Int), .int .u64 (d : Int)] 44))
  have q1 := fun w => oright_any f true a b c d w ha hb hc hd
  rw [h] at q1
  have q1 := hide_ q1
  have q2 := hide_ (fun w => fid_any f w)
  have q3 : Hid (∀ w, Calls Try.prog 88 #[ov f true a b c d] w fun e w' => e = .returned (.int .i64 (2 * (fsize f : Int))) ∧ Below w.heap.size w w') := hide_ (fun w => follow_any f true a b c d w)
  have q4 := hide_ (fun w => fsize_any f w)
  have hs := fsize_le f
  obtain ⟨hx1, hx2⟩ := fid_range f hf
  have p1 := hide_ (fun w => nput_any (.slice none 0 0) [] 32768 2 w (Bytes.nil w) (by simp) (by decide) (isB_spl2 _))
  have e1 : kind f true = 2 * fid f + 1 := rfl
  have e2 : foll f true = 2 * (fsize f : Int) := rfl
  have p2 : Hid (∀ v w, Bytes w v ([] ++ spl 32768 2) → Calls Try.prog 39 #[v, .int .i64 (2 * fid f + 1), .int .i64 1] w fun e w' => ∃ r, e = .returned r ∧ Bytes w' r ([] ++ spl 32768 2 ++ spl (kind f true) 1) ∧ Below w.heap.size w w') := hide_ (fun v w hB => by
    rw [← e1]
    exact nput_any v _ (kind f true) 1 w hB (by simp [spl_len2]) (enc_bound1 f true hf) (isB_spl1 _))
  have p3 : Hid (∀ v w, Bytes w v ([] ++ spl 32768 2 ++ spl (kind f true) 1) → Calls Try.prog 39 #[v, .int .i64 (2 * (fsize f : Int)), .int .i64 1] w fun e w' => ∃ r, e = .returned r ∧ Bytes w' r ([] ++ spl 32768 2 ++ spl (kind f true) 1 ++ spl (foll f true) 1) ∧ Below w.heap.size w w') := hide_ (fun v w hB => by
    rw [← e2]
    exact nput_any v _ (foll f true) 1 w hB (by simp [spl_len2, spl_len1]) (enc_bound2 f true) (isB_spl1 _))
  have p4 := hide_ (fun v w hB => wput_any v ([] ++ spl 32768 2 ++ spl (kind f true) 1 ++ spl (foll f true) 1) a b (fsize f : Int) w hB (by simp [spl_len2, spl_len1]) ha hb)
  have p5 := hide_ (fun v w hB => wput_any v ([] ++ spl 32768 2 ++ spl (kind f true) 1 ++ spl (foll f true) 1 ++ wtail a b (fsize f : Int)) c d (fsize f : Int) w hB (by simp [spl_len2, spl_len1, wtail_length]; have := cl_le (fsize f : Int) 16; omega) hc hd)
  have HL : Hid ([] ++ spl 32768 2 ++ spl (kind f true) 1 ++ spl (foll f true) 1 ++ wtail a b (fsize f : Int) ++ wtail c d (fsize f : Int) = encL f true a b c d) := hide_ (by simp [encL])
  clear e1 e2
  generalize encL f true a b c d = L at *
  generalize [] ++ spl 32768 2 ++ spl (kind f true) 1 ++ spl (foll f true) 1 ++ wtail a b (fsize f : Int) ++ wtail c d (fsize f : Int) = L5 at *
  generalize [] ++ spl 32768 2 ++ spl (kind f true) 1 ++ spl (foll f true) 1 ++ wtail a b (fsize f : Int) = L4 at *
  generalize [] ++ spl 32768 2 ++ spl (kind f true) 1 ++ spl (foll f true) 1 = L3 at *
  generalize [] ++ spl 32768 2 ++ spl (kind f true) 1 = L2 at *
  generalize [] ++ spl 32768 2 = L1 at *
  generalize fid f = x at *
  generalize fsize f = s at *
  have hw1 : IntKind.i64.wrap (2 * x) = 2 * x := by rw [IntKind.wrap_i64]; omega
  have hw2 : IntKind.i64.wrap (2 * x + 1) = 2 * x + 1 := by rw [IntKind.wrap_i64]; omega
  obtain ⟨c0, c1, c2, c3, c4, c5, -⟩ := A0.out.six
  unfold ov at *
  unfold wd at p4 p5
  clear ha hb hc hd h hf
  go_enter Try.func64, Try.ntmps64
  go_wp2_with (first | (go_at_call 60; refine (q1.out _).mono ?_; rintro e w1 ⟨rfl, k1⟩; obtain ⟨y10, y11, y12, y13, y14, y15, -⟩ := (A0.out.later k1).six) | (go_at_call 87; refine (q2.out _).mono ?_; rintro e w2 ⟨rfl, b2⟩; have k2 := k1.trans (b2.mono k1.size); obtain ⟨y20, y21, y22, y23, y24, y25, -⟩ := (A0.out.later k2).six) | (go_at_call_of 39 (Value.int IntKind.i64 32768); refine (p1.out _).mono ?_; rintro e w3 ⟨r1, rfl, h1, b3⟩; have h1 := hide_ h1; have k3 := k2.trans (b3.mono k2.size); obtain ⟨y30, y31, y32, y33, y34, y35, -⟩ := (A0.out.later k3).six) | (go_at_call_of 39 r1; refine (p2.out _ _ h1.out).mono ?_; rintro e w4 ⟨r2, rfl, h2, b4⟩; have h2 := hide_ h2; have k4 := k3.trans (b4.mono k3.size); obtain ⟨y40, y41, y42, y43, y44, y45, -⟩ := (A0.out.later k4).six) | (go_at_call 88; refine (q3.out _).mono ?_; rintro e w5 ⟨rfl, b5⟩; have h2b := hide_ (h2.out.later b5); have k5 := k4.trans (b5.mono k4.size); obtain ⟨y50, y51, y52, y53, y54, y55, -⟩ := (A0.out.later k5).six) | (go_at_call_of 39 r2; refine (p3.out _ _ h2b.out).mono ?_; rintro e w6 ⟨r3, rfl, h3, b6⟩; have h3 := hide_ h3; have k6 := k5.trans (b6.mono k5.size); obtain ⟨y60, y61, y62, y63, y64, y65, -⟩ := (A0.out.later k6).six))
  obtain ⟨g0, g1, g2, g3, g4, g5, -⟩ := (A0.out.later k6).six
  go_region_held3 (fun w' => w'.cell? ⟨w.heap.size, 2, none⟩ = some (.int .u64 (a : Int)) ∧ w'.cell? ⟨w.heap.size, 3, none⟩ = some (.int .u64 (b : Int)) ∧ w'.cell? ⟨w.heap.size, 0, none⟩ = some (.int .i64 f) ∧ Below w6.heap.size w6 w')
    (first | (with_reducible exact kN3 b8 (by assumption)) | (with_reducible exact kN3 b7 (by assumption)) | (exact ⟨g2, g3, g0, (Below.refl _ _).drew⟩))
    (first | (go_at_call 90; refine (q4.out _).mono ?_; rintro e w7 ⟨rfl, b7⟩; have hx7 := hide_ ((h3.out.later (Below.refl _ _).drew).later b7)) | (go_at_call 89; refine (p4.out _ _ hx7.out).mono ?_; rintro e w8 ⟨r4, rfl, h8, b8⟩; have h8 := hide_ h8))
  rename_i hH
  have j8 := hH.2.2.2
  clear hH g0 g1 g2 g3 g4 g5
  have k8 := k6.trans (j8.mono k6.size)
  clear y10 y11 y12 y13 y14 y15 y20 y21 y22 y23 y24 y25 y30 y31 y32 y33 y34 y35 y40 y41 y42 y43 y44 y45 y50 y51 y52 y53 y54 y55 y60 y61 y62 y63 y64 y65
  obtain ⟨g0, g1, g2, g3, g4, g5, -⟩ := (A0.out.later k8).six
  go_wp2_with fail
  clear g0 g1 g2 g3 g4 g5
  obtain ⟨g0, g1, g2, g3, g4, g5, -⟩ := (A0.out.later k8).six
  go_region_held3 (fun w' => w'.cell? ⟨w.heap.size, 4, none⟩ = some (.int .u64 (c : Int)) ∧ w'.cell? ⟨w.heap.size, 5, none⟩ = some (.int .u64 (d : Int)) ∧ w'.cell? ⟨w.heap.size, 0, none⟩ = some (.int .i64 f) ∧ Below w8.heap.size w8 w')
    (first | (with_reducible exact kN3 b10 (by assumption)) | (with_reducible exact kN3 b9 (by assumption)) | (exact ⟨g4, g5, g0, (Below.refl _ _).drew⟩))
    (first | (go_at_call 90; refine (q4.out _).mono ?_; rintro e w9 ⟨rfl, b9⟩; have hx9 := hide_ ((h8.out.later (Below.refl _ _).drew).later b9)) | (go_at_call 89; refine (p5.out _ _ hx9.out).mono ?_; rintro e w10 ⟨r5, rfl, h10, b10⟩; have h10 := hide_ h10))
  rename_i hH
  have j10 := hH.2.2.2
  clear hH g0 g1 g2 g3 g4 g5
  have k10 := k8.trans (j10.mono k8.size)
  go_wp2_with fail
  go_ret2
  exact ⟨_, rfl, by rw [← HL.out]; exact h10.out, B0.out.trans (k10.mono B0.out.size)⟩
end

section
open Go Go.RowKit
set_option linter.unusedVariables false
set_option linter.unusedSimpArgs false

theorem encL_ok {f : Int} {m : Bool} {a b c d : Nat} (ha : a < 18446744073709551616) (hb : b < 18446744073709551616) (hc : c < 18446744073709551616) (hd : d < 18446744073709551616) (h : rgt f m a b c d = true) : (encL f m a b c d).length ≤ 1000 ∧ isB (encL f m a b c d) := by
  obtain ⟨hf, -⟩ := rgt_parts h
  obtain ⟨h1, h2⟩ := fid_range f hf
  have e := encL_cons f m a b c d [] hf
  rw [List.append_nil, List.append_nil] at e
  rw [e]
  have hs := fsize_le f
  have w1 := wtail_len a b f
  have w2 := wtail_len c d f
  have i1 := isB_wtail a b (fsize f) ha hb
  have i2 := isB_wtail c d (fsize f) hc hd
  constructor
  · simp only [List.length_cons, List.length_append, w1]
    cases m
    · simp only [mtail, List.length_nil]; omega
    · simp only [mtail, w2]; omega
  · intro z hz
    have hk : 0 ≤ kind f m ∧ kind f m ≤ 255 := by unfold kind; cases m <;> dsimp only <;> omega
    have hl : 0 ≤ foll f m ∧ foll f m ≤ 255 := by unfold foll; cases m <;> dsimp only <;> omega
    simp only [List.mem_cons, List.mem_append] at hz
    rcases hz with rfl | rfl | rfl | rfl | hz | hz
    · constructor <;> omega
    · constructor <;> omega
    · constructor <;> omega
    · constructor <;> omega
    · exact i1 z hz
    · cases m
      · cases hz
      · exact i2 z hz
/-- the encoding of what is right, at any mask -/
theorem enc_yes (f : Int) (m : Bool) (a b c d : Nat) (ha : a < 18446744073709551616) (hb : b < 18446744073709551616) (hc : c < 18446744073709551616) (hd : d < 18446744073709551616) (h : rgt f m a b c d = true) (w : World) :
    Calls Try.prog 64 #[ov f m a b c d] w fun e w' => ∃ r, e = .returned (.tuple #[r, .int .i64 0]) ∧ Bytes w' r (encL f m a b c d) ∧ Below w.heap.size w w' := by
  cases m
  · exact oenc_yes0 f a b c d w ha hb hc hd h
  · exact oenc_yes1 f a b c d w ha hb hc hd h
end

section
open Go Go.RowKit
set_option linter.unusedVariables false
set_option linter.unusedSimpArgs false

/-- what an action has behind its length, but for the noughts -/
def bodyL (k p x q y f : Int) (m : Bool) (a b c d : Nat) : List Int := if k = 0 then spl p 4 ++ spl x 2 else if k = 22 then spl q 4 else if k = 17 then spl y 2 else if k = 25 then encL f m a b c d else []
def aencL (k p x q y f : Int) (m : Bool) (a b c d : Nat) : List Int := spl k 2 ++ spl ((r8 (4 + (bodyL k p x q y f m a b c d).length) : Nat) : Int) 2 ++ (bodyL k p x q y f m a b c d ++ List.replicate (r8 (4 + (bodyL k p x q y f m a b c d).length) - (4 + (bodyL k p x q y f m a b c d).length)) 0)
theorem spl_len4 (n : Int) : (spl n 4).length = 4 := by simp [spl]
theorem isB_spl4 {n : Int} (h0 : 0 ≤ n) (h1 : n ≤ 4294967295) : isB (spl n 4) := by
  intro z hz
  simp [spl] at hz
  rcases hz with rfl | rfl | rfl | rfl <;> omega
theorem art_kind {k p x q y f : Int} {m : Bool} {a b c d : Nat} (h : art k p x q y f m a b c d = true) : k = 0 ∨ k = 22 ∨ k = 17 ∨ k = 18 ∨ k = 25 := by
  unfold art achk at h
  by_cases h0 : k = 0
  · exact .inl h0
  by_cases h22 : k = 22
  · exact .inr (.inl h22)
  by_cases h17 : k = 17
  · exact .inr (.inr (.inl h17))
  by_cases h18 : k = 18
  · exact .inr (.inr (.inr (.inl h18)))
  by_cases h25 : k = 25
  · exact .inr (.inr (.inr (.inr h25)))
  · simp [h0, h22, h17, h18, h25] at h
theorem art_0 {p x q y f : Int} {m : Bool} {a b c d : Nat} (h : art 0 p x q y f m a b c d = true) : 1 ≤ p ∧ p ≤ 4294967293 ∧ 0 ≤ x ∧ x ≤ 65535 := by
  unfold art achk at h
  simp only [if_true] at h
  cases hg : goB p
  · simp [hg] at h
  · cases ht : tkB p x
    · simp [hg, ht] at h
    · unfold goB at hg
      unfold tkB at ht
      split at ht <;> simp at hg ht <;> omega
theorem art_22 {p x q y f : Int} {m : Bool} {a b c d : Nat} (h : art 22 p x q y f m a b c d = true) : 0 ≤ q ∧ q ≤ 4294967040 := by
  unfold art achk at h
  by_cases h1 : 0 ≤ q
  · by_cases h2 : q ≤ 4294967040
    · exact ⟨h1, h2⟩
    · simp [h1, h2] at h
  · simp [h1] at h
theorem art_17 {p x q y f : Int} {m : Bool} {a b c d : Nat} (h : art 17 p x q y f m a b c d = true) : y = 33024 ∨ y = 34984 := by
  unfold art achk at h
  by_cases h1 : y = 33024
  · exact .inl h1
  · by_cases h2 : y = 34984
    · exact .inr h2
    · simp [h1, h2] at h
theorem art_25 {p x q y f : Int} {m : Bool} {a b c d : Nat} (h : art 25 p x q y f m a b c d = true) : rgt f m a b c d = true ∧ m = false ∧ setsB f = true ∧ p = 0 ∧ x = 0 ∧ q = 0 ∧ y = 0 := by
  unfold art achk ownE at h
  cases hr : rgt f m a b c d
  · simp [hr] at h
  · cases hs : setsB f
    · simp [hs] at h
    · cases hm : m
      · simp [hs, hm] at h
        exact ⟨rfl, rfl, rfl, h.1.1, h.1.2.1, h.1.2.2.1, h.1.2.2.2⟩
      · simp [hs, hm] at h
set_option maxRecDepth 100000 in
set_option maxHeartbeats 4000000 in
theorem body_22 (p x q y f : Int) (m : Bool) (a b c d : Nat) (w : World) (h0 : 0 ≤ q) (h1 : q ≤ 4294967040) :
    Calls Try.prog 40 #[.agg #[.int .i64 22, .int .i64 p, .int .i64 x, .int .i64 q, .int .i64 y, .int .i64 f, .bool m, .int .u64 (a : Int), .int .u64 (b : Int), .int .u64 (c : Int), .int .u64 (d : Int)]] w fun e w' => ∃ r, e = .returned r ∧ Bytes w' r ([] ++ spl q 4) ∧ Below w.heap.size w w' := by
  have A0 := hide_ (AB.at0 w 46 [.int .i64 22, .int .i64 p, .int .i64 x, .int .i64 q, .int .i64 y, .int .i64 f, .bool m, .int .u64 (a : Int), .int .u64 (b : Int), .int .u64 (c : Int), .int .u64 (d : Int)])
  have B0 := hide_ (below1 w (.cells #[.int .i64 22, .int .i64 p, .int .i64 x, .int .i64 q, .int .i64 y, .int .i64 f, .bool m, .int .u64 (a : Int), .int .u64 (b : Int), .int .u64 (c : Int), .int .u64 (d : Int)] 46))
  have p1 := hide_ (fun w => nput_any (.slice none 0 0) [] q 4 w (Bytes.nil w) (by simp) (rightB_in4 h0 (by omega)) (isB_spl4 h0 (by omega)))
  clear h0 h1
  go_enter Try.func40, Try.ntmps40
  go_wp2_with (go_at_call 39; refine (p1.out _).mono ?_; rintro e w1 ⟨r1, rfl, h1, b1⟩)
  go_ret
  exact ⟨_, rfl, h1, B0.out.trans (b1.mono B0.out.size)⟩

set_option maxRecDepth 100000 in
set_option maxHeartbeats 4000000 in
theorem body_17 (p x q y f : Int) (m : Bool) (a b c d : Nat) (w : World) (h0 : 0 ≤ y) (h1 : y ≤ 65535) :
    Calls Try.prog 40 #[.agg #[.int .i64 17, .int .i64 p, .int .i64 x, .int .i64 q, .int .i64 y, .int .i64 f, .bool m, .int .u64 (a : Int), .int .u64 (b : Int), .int .u64 (c : Int), .int .u64 (d : Int)]] w fun e w' => ∃ r, e = .returned r ∧ Bytes w' r ([] ++ spl y 2) ∧ Below w.heap.size w w' := by
  have A0 := hide_ (AB.at0 w 46 [.int .i64 17, .int .i64 p, .int .i64 x, .int .i64 q, .int .i64 y, .int .i64 f, .bool m, .int .u64 (a : Int), .int .u64 (b : Int), .int .u64 (c : Int), .int .u64 (d : Int)])
  have B0 := hide_ (below1 w (.cells #[.int .i64 17, .int .i64 p, .int .i64 x, .int .i64 q, .int .i64 y, .int .i64 f, .bool m, .int .u64 (a : Int), .int .u64 (b : Int), .int .u64 (c : Int), .int .u64 (d : Int)] 46))
  have p1 := hide_ (fun w => nput_any (.slice none 0 0) [] y 2 w (Bytes.nil w) (by simp) (rightB_in2 h0 (by omega)) (isB_spl2 _))
  clear h0 h1
  go_enter Try.func40, Try.ntmps40
  go_wp2_with (go_at_call 39; refine (p1.out _).mono ?_; rintro e w1 ⟨r1, rfl, h1, b1⟩)
  go_ret
  exact ⟨_, rfl, h1, B0.out.trans (b1.mono B0.out.size)⟩

set_option maxRecDepth 100000 in
set_option maxHeartbeats 4000000 in
theorem body_18 (p x q y f : Int) (m : Bool) (a b c d : Nat) (w : World) :
    Calls Try.prog 40 #[.agg #[.int .i64 18, .int .i64 p, .int .i64 x, .int .i64 q, .int .i64 y, .int .i64 f, .bool m, .int .u64 (a : Int), .int .u64 (b : Int), .int .u64 (c : Int), .int .u64 (d : Int)]] w fun e w' => ∃ r, e = .returned r ∧ Bytes w' r ([]) ∧ Below w.heap.size w w' := by
  have A0 := hide_ (AB.at0 w 46 [.int .i64 18, .int .i64 p, .int .i64 x, .int .i64 q, .int .i64 y, .int .i64 f, .bool m, .int .u64 (a : Int), .int .u64 (b : Int), .int .u64 (c : Int), .int .u64 (d : Int)])
  have B0 := hide_ (below1 w (.cells #[.int .i64 18, .int .i64 p, .int .i64 x, .int .i64 q, .int .i64 y, .int .i64 f, .bool m, .int .u64 (a : Int), .int .u64 (b : Int), .int .u64 (c : Int), .int .u64 (d : Int)] 46))
  go_enter Try.func40, Try.ntmps40
  go_wp2_with fail
  go_ret
  exact ⟨_, rfl, Bytes.nil _, B0.out⟩

set_option maxRecDepth 100000 in
set_option maxHeartbeats 4000000 in
theorem body_25 (p x q y f : Int) (m : Bool) (a b c d : Nat) (w : World) (ha : a < 18446744073709551616) (hb : b < 18446744073709551616) (hc : c < 18446744073709551616) (hd : d < 18446744073709551616) (hm : m = false) (h : rgt f m a b c d = true) :
    Calls Try.prog 40 #[.agg #[.int .i64 25, .int .i64 p, .int .i64 x, .int .i64 q, .int .i64 y, .int .i64 f, .bool m, .int .u64 (a : Int), .int .u64 (b : Int), .int .u64 (c : Int), .int .u64 (d : Int)]] w fun e w' => ∃ r, e = .returned r ∧ Bytes w' r (encL f m a b c d) ∧ Below w.heap.size w w' := by
  have A0 := hide_ (AB.at0 w 46 [.int .i64 25, .int .i64 p, .int .i64 x, .int .i64 q, .int .i64 y, .int .i64 f, .bool m, .int .u64 (a : Int), .int .u64 (b : Int), .int .u64 (c : Int), .int .u64 (d : Int)])
  have B0 := hide_ (below1 w (.cells #[.int .i64 25, .int .i64 p, .int .i64 x, .int .i64 q, .int .i64 y, .int .i64 f, .bool m, .int .u64 (a : Int), .int .u64 (b : Int), .int .u64 (c : Int), .int .u64 (d : Int)] 46))
  subst hm
  have q1 := hide_ (fun w => oenc_yes0 f a b c d w ha hb hc hd h)
  unfold ov at q1
  clear ha hb hc hd h
  generalize encL f false a b c d = L at *
  go_enter Try.func40, Try.ntmps40
  go_wp2_with (go_at_call 64; refine (q1.out _).mono ?_; rintro e w1 ⟨r1, rfl, h1, b1⟩)
  go_ret
  exact ⟨_, rfl, h1, B0.out.trans (b1.mono B0.out.size)⟩

set_option maxRecDepth 100000 in
set_option maxHeartbeats 4000000 in
theorem body_0 (p x q y f : Int) (m : Bool) (a b c d : Nat) (w : World) (h0 : 0 ≤ p) (h1 : p ≤ 4294967295) (h2 : 0 ≤ x) (h3 : x ≤ 65535) :
    Calls Try.prog 40 #[.agg #[.int .i64 0, .int .i64 p, .int .i64 x, .int .i64 q, .int .i64 y, .int .i64 f, .bool m, .int .u64 (a : Int), .int .u64 (b : Int), .int .u64 (c : Int), .int .u64 (d : Int)]] w fun e w' => ∃ r, e = .returned r ∧ Bytes w' r ([] ++ spl p 4 ++ spl x 2) ∧ Below w.heap.size w w' := by
  have A0 := hide_ (AB.at0 w 46 [.int .i64 0, .int .i64 p, .int .i64 x, .int .i64 q, .int .i64 y, .int .i64 f, .bool m, .int .u64 (a : Int), .int .u64 (b : Int), .int .u64 (c : Int), .int .u64 (d : Int)])
  have B0 := hide_ (below1 w (.cells #[.int .i64 0, .int .i64 p, .int .i64 x, .int .i64 q, .int .i64 y, .int .i64 f, .bool m, .int .u64 (a : Int), .int .u64 (b : Int), .int .u64 (c : Int), .int .u64 (d : Int)] 46))
  have p1 := hide_ (fun w => nput_any (.slice none 0 0) [] p 4 w (Bytes.nil w) (by simp) (rightB_in4 h0 (by omega)) (isB_spl4 h0 h1))
  have p2 := hide_ (fun v w hB => nput_any v ([] ++ spl p 4) x 2 w hB (by simp [spl_len4]) (rightB_in2 h2 (by omega)) (isB_spl2 _))
  clear h0 h1 h2 h3
  obtain ⟨c0, c1, c2, c3, c4, c5, c6, c7, c8, c9, c10, -⟩ := A0.out.eleven
  go_enter Try.func40, Try.ntmps40
  go_wp2_with fail
  generalize w.alloc (.cells #[.int .i64 0, .int .i64 p, .int .i64 x, .int .i64 q, .int .i64 y, .int .i64 f, .bool m, .int .u64 (a : Int), .int .u64 (b : Int), .int .u64 (c : Int), .int .u64 (d : Int)] 46) = W at *
  refine wp_region_held_drew (S := (fun w' => w'.cell? ⟨w.heap.size, 1, none⟩ = some (.int .i64 p) ∧ w'.cell? ⟨w.heap.size, 2, none⟩ = some (.int .i64 x) ∧ w'.cell? ⟨w.heap.size, 0, none⟩ = some (.int .i64 0) ∧ Below w.heap.size w w')) (by kernel_rfl) (⟨c1, c2, c0, B0.out.drew⟩) (fun hHeld => ?_)
  refine takeR (i := 0) (v := ?_) rfl (by kernel_rfl) (by kernel_rfl) (by kernel_rfl) (some 9) rfl (Or.inl ⟨by rfl, ?_⟩) (fun _ _ _ h => h) (by assumption) ?_
  rotate_left
  · intro w hSw; (try dsimp only at hSw); go_simp; (try with_reducible rfl)
  simp only [Act.put, List.setIfInBounds_toArray, List.set_cons_zero, List.set_cons_succ]
  refine takeR (i := 1) (v := ?_) rfl (by kernel_rfl) (by kernel_rfl) (by kernel_rfl) (some 10) rfl (Or.inl ⟨by rfl, ?_⟩) (fun _ _ _ h => h) (by assumption) ?_
  rotate_left
  · intro w hSw; (try dsimp only at hSw); go_simp; (try with_reducible rfl)
  simp only [Act.put, List.setIfInBounds_toArray, List.set_cons_zero, List.set_cons_succ]
  refine takeR (i := 3) (v := ?_) rfl (by kernel_rfl) (by kernel_rfl) (by kernel_rfl) (some 12) rfl (Or.inl ⟨by rfl, ?_⟩) (fun _ _ _ h => h) (by assumption) ?_
  rotate_left
  · intro w hSw; (try dsimp only at hSw); go_simp; (try with_reducible rfl)
  simp only [Act.put, List.setIfInBounds_toArray, List.set_cons_zero, List.set_cons_succ]
  refine takeR (i := 4) (v := ?_) rfl (by kernel_rfl) (by kernel_rfl) (by kernel_rfl) (some 13) rfl (Or.inl ⟨by rfl, ?_⟩) (fun _ _ _ h => h) (by assumption) ?_
  rotate_left
  · intro w hSw; (try dsimp only at hSw); go_simp; (try with_reducible rfl)
  simp only [Act.put, List.setIfInBounds_toArray, List.set_cons_zero, List.set_cons_succ]
  refine wpAnyH_ready (rs := [2]) (by kernel_rfl) (by simp) ?_
  refine AllReadyH.cons rfl (fun K hK => ?_) (AllReadyH.nil)
  go_simp
  refine (p1.out _).mono ?_
  rintro e w1 ⟨r1, rfl, h1, b1⟩
  have h1 := hide_ h1
  refine hK.out _ _ (kN3 b1 hHeld) (fun hHeld => ?_)
  clear hK K
  try simp only [Act.put, List.setIfInBounds_toArray, List.set_cons_zero, List.set_cons_succ]
  refine wpAnyH_ready (rs := [5]) (by kernel_rfl) (by simp) ?_
  refine AllReadyH.cons rfl (fun K hK => ?_) (AllReadyH.nil)
  go_simp
  refine (p2.out _ _ h1.out).mono ?_
  rintro e w2 ⟨r2, rfl, h2, b2⟩
  have h2 := hide_ h2
  refine hK.out _ _ (kN3 b2 hHeld) (fun hHeld => ?_)
  clear hK K
  try simp only [Act.put, List.setIfInBounds_toArray, List.set_cons_zero, List.set_cons_succ]
  refine takeR (i := 6) (v := ?_) rfl (by kernel_rfl) (by kernel_rfl) (by kernel_rfl) (some 2) rfl (Or.inl ⟨by rfl, ?_⟩) (fun _ _ _ h => h) (by assumption) ?_
  rotate_left
  · intro w hSw; (try dsimp only at hSw); go_simp; (try with_reducible rfl)
  simp only [Act.put, List.setIfInBounds_toArray, List.set_cons_zero, List.set_cons_succ]
  refine wpAnyH_done (by kernel_rfl) ?_ _
  go_wp2_with fail
  go_ret
  exact ⟨_, rfl, h2.out, hHeld.2.2.2⟩
end

section
open Go Go.RowKit
set_option linter.unusedVariables false
set_option linter.unusedSimpArgs false

theorem body_any (k p x q y f : Int) (m : Bool) (a b c d : Nat) (w : World) (ha : a < 18446744073709551616) (hb : b < 18446744073709551616) (hc : c < 18446744073709551616) (hd : d < 18446744073709551616) (h : art k p x q y f m a b c d = true) :
    Calls Try.prog 40 #[.agg #[.int .i64 k, .int .i64 p, .int .i64 x, .int .i64 q, .int .i64 y, .int .i64 f, .bool m, .int .u64 (a : Int), .int .u64 (b : Int), .int .u64 (c : Int), .int .u64 (d : Int)]] w fun e w' => ∃ r, e = .returned r ∧ Bytes w' r (bodyL k p x q y f m a b c d) ∧ Below w.heap.size w w' := by
  rcases art_kind h with rfl | rfl | rfl | rfl | rfl
  · obtain ⟨h1, h2, h3, h4⟩ := art_0 h
    exact body_0 p x q y f m a b c d w (by omega) (by omega) h3 h4
  · obtain ⟨h1, h2⟩ := art_22 h
    exact body_22 p x q y f m a b c d w h1 h2
  · have h1 := art_17 h
    exact body_17 p x q y f m a b c d w (by omega) (by omega)
  · exact body_18 p x q y f m a b c d w
  · obtain ⟨h1, h2, -⟩ := art_25 h
    exact body_25 p x q y f m a b c d w ha hb hc hd h2 h1
theorem encL_le (f : Int) (m : Bool) (a b c d : Nat) : (encL f m a b c d).length ≤ 36 := by
  have h1 := cl_le (fsize f : Int) 16
  unfold encL
  cases m
  · simp only [List.append_nil, List.length_append, spl_len2, spl_len1, wtail_length]; omega
  · simp only [List.length_append, spl_len2, spl_len1, wtail_length]; omega
theorem bodyL_le (k p x q y f : Int) (m : Bool) (a b c d : Nat) : (bodyL k p x q y f m a b c d).length ≤ 36 := by
  unfold bodyL
  repeat' split
  all_goals first | exact encL_le _ _ _ _ _ _ | (simp [spl_len4, spl_len2, List.length_append])
theorem own_app {w w' : World} {base n nn : Nat} {v v' u : Value} {l m : List Int} (h : OwnB w base v l) (hB : Bytes w u m) (ho : w'.ownsRow base 5 1 v' (l.length + m.length) (u8s l ++ u8s m)) (hg : w.grownBy w' v.ownBlock) (hn : l.length + m.length = n) (h0 : 0 < n) (h1 : nn ≤ base) (h2 : nn ≤ w.heap.size) :
    ∃ g cap, v' = .slice (some ⟨g, 0, none⟩) n cap ∧ OwnB w' base (.slice (some ⟨g, 0, none⟩) n cap) (l ++ m) ∧ base ≤ g ∧ n ≤ cap ∧ cap ≤ maxLen ∧ Below nn w w' := by
  have hm : isB m := by obtain ⟨_, _, _, _, _, h, _⟩ := hB; exact h
  have O := h.grow hm ho
  obtain ⟨g, cap, e, a1, a2, a3, a4⟩ := O.form (by rw [List.length_append]; omega)
  rw [List.length_append, hn] at e a3
  subst e
  exact ⟨g, cap, rfl, O, a1, a3, a4, h.growB hg h1 h2⟩
theorem own_zeros {w w' : World} {base n m k nn : Nat} {v v' : Value} {l : List Int} (h : OwnB w base v l) (hl : l.length = n) (ho : w'.ownsRow base 5 1 v' (n + m) (u8s (l ++ List.replicate m 0))) (hg : w.grownBy w' v.ownBlock) (hn : n + m = k) (h0 : 0 < k) (h1 : nn ≤ base) (h2 : nn ≤ w.heap.size) :
    ∃ g cap, v' = .slice (some ⟨g, 0, none⟩) k cap ∧ OwnB w' base (.slice (some ⟨g, 0, none⟩) k cap) (l ++ List.replicate m 0) ∧ base ≤ g ∧ k ≤ cap ∧ cap ≤ maxLen ∧ Below nn w w' := by
  have O : OwnB w' base v' (l ++ List.replicate m 0) := ⟨by rw [List.length_append, List.length_replicate, hl]; exact ho, h.2.app (isB_zeros m)⟩
  obtain ⟨g, cap, e, a1, a2, a3, a4⟩ := O.form (by rw [List.length_append, List.length_replicate]; omega)
  rw [List.length_append, List.length_replicate, hl, hn] at e a3
  subst e
  exact ⟨g, cap, rfl, O, a1, a3, a4, h.growB hg h1 h2⟩
theorem slice2 (g n cap : Nat) (h1 : 4 ≤ n) (h2 : n ≤ cap) (wx : World) : (Instr.slice 24 (.slice (some ⟨g, 0, none⟩) n cap) (some (.int .i64 2)) none none).run Try.prog wx = .ok (.slice (some ⟨g, 2, none⟩) (n - 2) (cap - 2)) wx := by
  rw [run_slice_l wx 24 (some ⟨g, 0, none⟩) n cap u51 .i64 2 (by omega) (by omega), sz51]
  have h3 : ¬ cap = 2 := by omega
  simp [sliced, h3, Addr.add_lit]
theorem r8_ge (n : Nat) : n ≤ r8 n := by unfold r8; omega
theorem r8_le (n : Nat) : r8 n ≤ n + 7 := by unfold r8; omega
theorem put_own (v : Value) (l : List Int) (n s : Int) (w : World) (hB : Bytes w v l) (hl : l.length ≤ 1000) (hr : rightB n s = true) (hs : isB (spl n s)) :
    Calls Try.prog 39 #[v, .int .i64 n, .int .i64 s] w fun e w' => ∃ r, e = .returned r ∧ OwnB w' w.heap.size r (l ++ spl n s) ∧ Below w.heap.size w w' :=
  (put_any v l n s w hB (by omega) hr).mono fun e w' ⟨r, h1, h2, h3⟩ => ⟨r, h1, ⟨h2, by
    obtain ⟨_, _, _, _, _, hb, _⟩ := hB
    exact hb.app hs⟩, h3⟩
theorem aenc_list (k p x q y f : Int) (m : Bool) (a b c d : Nat) (n : Nat) (hn : 4 + (bodyL k p x q y f m a b c d).length = n) :
    (([] ++ spl k 2 ++ spl 0 2 ++ bodyL k p x q y f m a b c d ++ List.replicate (r8 n - n) 0).take 2 ++ ([] ++ spl ((r8 n : Nat) : Int) 2) ++ ([] ++ spl k 2 ++ spl 0 2 ++ bodyL k p x q y f m a b c d ++ List.replicate (r8 n - n) 0).drop 4) = aencL k p x q y f m a b c d := by
  subst hn
  unfold aencL
  generalize bodyL k p x q y f m a b c d = B
  generalize r8 (4 + B.length) = r
  simp [spl]

set_option maxRecDepth 100000 in
set_option maxHeartbeats 4000000 in
theorem aenc_no (k p x q y f : Int) (m : Bool) (a b c d : Nat) (w : World) (ha : a < 18446744073709551616) (hb : b < 18446744073709551616) (hc : c < 18446744073709551616) (hd : d < 18446744073709551616) (h : art k p x q y f m a b c d = false) :
    Calls Try.prog 26 #[av k p x q y f m a b c d] w fun e w' => e = .returned (.tuple #[.slice none 0 0, .int .i64 1]) ∧ Below w.heap.size w w' := by
  have B0 := hide_ (below1 w (.cells #[.int .i64 k, .int .i64 p, .int .i64 x, .int .i64 q, .int .i64 y, .int .i64 f, .bool m, .int .u64 (a : Int), .int .u64 (b : Int), .int .u64 (c : Int), .int .u64 (d : Int)] 46))
  have q1 := fun w => aright_any k p x q y f m a b c d w ha hb hc hd
  rw [h] at q1
  have q1 := hide_ q1
  unfold av at *
  clear ha hb hc hd h
  go_enter Try.func26, Try.ntmps26
  go_wp2_with (go_at_call 38; refine (q1.out _).mono ?_; rintro e w1 ⟨rfl, b1⟩)
  go_ret2
  exact ⟨rfl, B0.out.trans (b1.mono B0.out.size)⟩

set_option maxRecDepth 100000 in
set_option maxHeartbeats 4000000 in
theorem aenc_own (k p x q y f : Int) (m : Bool) (a b c d : Nat) (w : World) (ha : a < 18446744073709551616) (hb : b < 18446744073709551616) (hc : c < 18446744073709551616) (hd : d < 18446744073709551616) (h : art k p x q y f m a b c d = true) :
    Calls Try.prog 26 #[av k p x q y f m a b c d] w fun e w' => ∃ r, e = .returned (.tuple #[r, .int .i64 0]) ∧ OwnB w' w.heap.size r (aencL k p x q y f m a b c d) ∧ Below w.heap.size w w' := by
  have A0 := hide_ (AB.at0 w 46 [.int .i64 k, .int .i64 p, .int .i64 x, .int .i64 q, .int .i64 y, .int .i64 f, .bool m, .int .u64 (a : Int), .int .u64 (b : Int), .int .u64 (c : Int), .int .u64 (d : Int)])
  have B0 := hide_ (below1 w (.cells #[.int .i64 k, .int .i64 p, .int .i64 x, .int .i64 q, .int .i64 y, .int .i64 f, .bool m, .int .u64 (a : Int), .int .u64 (b : Int), .int .u64 (c : Int), .int .u64 (d : Int)] 46))
  have q1 := fun w => aright_any k p x q y f m a b c d w ha hb hc hd
  rw [h] at q1
  have q1 := hide_ q1
  have hk : 0 ≤ k ∧ k ≤ 25 := by rcases art_kind h with rfl | rfl | rfl | rfl | rfl <;> omega
  have p1 := hide_ (fun w => nput_any (.slice none 0 0) [] k 2 w (Bytes.nil w) (by simp) (rightB_in2 (by omega) (by omega)) (isB_spl2 _))
  have p2 := hide_ (fun v w hB => put_own v ([] ++ spl k 2) 0 2 w hB (by simp [spl_len2]) (by decide) (isB_spl2 _))
  have q3 := hide_ (fun w => body_any k p x q y f m a b c d w ha hb hc hd h)
  have hbl := bodyL_le k p x q y f m a b c d
  obtain ⟨n, hn⟩ : ∃ n, 4 + (bodyL k p x q y f m a b c d).length = n := ⟨_, rfl⟩
  have HLL := hide_ (aenc_list k p x q y f m a b c d n hn)
  have hL0 : ([] ++ spl k 2 ++ spl 0 2).length = 4 := by simp [spl_len2]
  have hr1 := r8_ge n
  have hr2 := r8_le n
  have hn4 : 4 ≤ n := by omega
  have hn40 : n ≤ 40 := by omega
  have qr := hide_ (fun w => round_any n w (by omega))
  have p3 := hide_ (fun w => nput_any (.slice none 0 0) [] ((r8 n : Nat) : Int) 2 w (Bytes.nil w) (by simp) (rightB_in2 (by omega) (by omega)) (isB_spl2 _))
  have hM6 : ([] ++ spl ((r8 n : Nat) : Int) 2).length = 2 := by simp [spl_len2]
  generalize [] ++ spl ((r8 n : Nat) : Int) 2 = M6 at *
  obtain ⟨n6, hn6⟩ : ∃ n6, r8 n = n6 := ⟨_, rfl⟩
  rw [hn6] at hr1 hr2 qr p3
  have HLL := hide_ HLL.out
  rw [hn6] at HLL
  have hsub : IntKind.i64.wrap ((n6 : Int) - (n : Int)) = ((n6 - n : Nat) : Int) := by rw [IntKind.wrap_i64]; omega
  clear hn6
  generalize [] ++ spl k 2 ++ spl 0 2 = L0 at *
  generalize [] ++ spl k 2 = L1 at *
  generalize aencL k p x q y f m a b c d = LL at *
  generalize bodyL k p x q y f m a b c d = B at *
  obtain ⟨i0, hi0, hz0, hz1, hz2⟩ := info_parts info5
  have hsz5 : (Try.prog.info? 5).map (·.size) = some 1 := by rw [hi0]; exact congrArg some hz1
  have HI : Hid (Try.prog.info? 5 = some i0 ∧ i0.zero = some (.int .u8 0) ∧ i0.size = 1 ∧ i0.bytes = 1) := ⟨hi0, hz0, hz1, hz2⟩
  clear hi0 hz0 hz1 hz2 hk h
  unfold av at *
  clear ha hb hc hd
  go_enter Try.func26, Try.ntmps26
  go_wp2_with (first | (go_at_call 38; refine (q1.out _).mono ?_; rintro e w1 ⟨rfl, k1⟩; obtain ⟨y0, y1, y2, y3, y4, y5, y6, y7, y8, y9, y10, -⟩ := (A0.out.later k1).eleven) | (go_at_call_of 39 (Value.slice none 0 0); refine (p1.out _).mono ?_; rintro e w2 ⟨r1, rfl, h1, b2⟩; have k2 := k1.trans (b2.mono k1.size); have h1 := hide_ h1) | (go_at_call 39; refine (p2.out _ _ h1.out).mono ?_; rintro e w3 ⟨r2, rfl, h2, b3⟩; have k3 := k2.trans (b3.mono k2.size); have h2 := hide_ h2; obtain ⟨z0, z1, z2, z3, z4, z5, z6, z7, z8, z9, z10, -⟩ := (A0.out.later k3).eleven) | (go_at_call 40; refine (q3.out _).mono ?_; rintro e w4 ⟨r3, rfl, h3, b4⟩; have k4 := k3.trans (b4.mono k3.size); have h3 := hide_ h3; have h2 := hide_ (h2.out.later b4); have hb4 : w2.heap.size ≤ w4.heap.size := Nat.le_trans b3.size b4.size) | (at_builtin; refine wpList_append_ownB rfl (.tmp 13) (.tmp 15) 24 rfl w2.heap.size 5 i0 Try.underlying24 HI.out.1 HI.out.2.1 HI.out.2.2.1 HI.out.2.2.2 r2 L0.length (u8s L0) (by simp [Act.eval, Act.put]) h2.out.1 r3 B (by simp [Act.eval, Act.put]) h3.out (by omega) hb4 ?_; intro v5 w5 own5 hg5; obtain ⟨g5, cap5, rfl, O5, a1, a2, a3, b5⟩ := own_app (n := n) (nn := w.heap.size) h2.out h3.out own5 hg5 (by omega) (by omega) (Nat.le_trans B0.out.size k2.size) (Nat.le_trans B0.out.size k4.size); have O5 := hide_ O5; have hs5 : w2.heap.size ≤ w5.heap.size := Nat.le_trans hb4 hg5.size; have K5 := hide_ ((B0.out.trans (k4.mono B0.out.size)).trans b5); have hl5 : (L0 ++ B).length = n := by rw [List.length_append]; omega) | (go_at_call 41; refine (qr.out _).mono ?_; rintro e w' ⟨rfl, rfl⟩) | (at_builtin; refine wpList_append_zerosB rfl (.tmp 17) (.tmp 23) 24 3 rfl w2.heap.size 5 i0 Try.underlying24 Try.underlying3 HI.out.1 HI.out.2.1 HI.out.2.2.1 HI.out.2.2.2 (.slice (some ⟨g5, 0, none⟩) n cap5) n (L0 ++ B) (by simp [Act.eval, Act.put]) (by have := O5.out.1; rw [hl5] at this; exact this) (by omega) (n6 - n) (by simp [Act.eval, Act.put]) (by omega) hs5 ?_; intro v6 w6 own6 hg6; obtain ⟨g6, cap6, rfl, O6, c1, c2, c3, b6⟩ := own_zeros (k := n6) (nn := w.heap.size) O5.out hl5 own6 hg6 (by omega) (by omega) (Nat.le_trans B0.out.size k2.size) K5.out.size; have O6 := hide_ O6; have K6 := hide_ (K5.out.trans b6); have HL6 : Hid ((L0 ++ B ++ List.replicate (n6 - n) 0).length = n6) := hide_ (by rw [List.length_append, List.length_replicate, hl5]; omega)))
  have HN2 := hide_ (Nat.le_trans B0.out.size k2.size)
  generalize L0 ++ B ++ List.replicate (n6 - n) 0 = L6 at *
  have h46 : 4 ≤ n6 := by omega
  have hsl := fun wx => slice2 g6 n6 cap6 h46 c2 wx
  clear O5 K5 h1 h2 h3 own5 own6 hg5 hg6 A0 B0 k1 k2 k3 k4 b2 b3 b4 b5 b6
  refine wp_region_held_drew (S := (fun w' => Below w.heap.size w w')) (by kernel_rfl) (K6.out.drew) (fun hHeld => ?_)
  have OD := hide_ (O6.out.later ((Below.refl _ _).drew : Below w6.heap.size w6 w6.drew))
  generalize w6.drew = D at *
  refine takeR (i := 0) (v := ?_) rfl (by kernel_rfl) (by kernel_rfl) (by kernel_rfl) (some 25) rfl (Or.inl ⟨by rfl, ?_⟩) (fun _ _ _ h => h) (by assumption) ?_
  rotate_left
  · intro w hSw; (try dsimp only at hSw); go_simp; (try with_reducible rfl)
  simp only [Act.put, List.setIfInBounds_toArray, List.set_cons_zero, List.set_cons_succ]
  refine takeR (i := 1) (v := ?_) rfl (by kernel_rfl) (by kernel_rfl) (by kernel_rfl) (some 26) rfl (Or.inl ⟨by rfl, ?_⟩) (fun _ _ _ h => h) (by assumption) ?_
  rotate_left
  · intro w hSw; (try dsimp only at hSw); go_simp; (try with_reducible rfl)
  simp only [Act.put, List.setIfInBounds_toArray, List.set_cons_zero, List.set_cons_succ]
  refine takeR (i := 2) (v := ?_) rfl (by kernel_rfl) (by kernel_rfl) (by kernel_rfl) (some 27) rfl (Or.inl ⟨by rfl, ?_⟩) (fun _ _ _ h => h) (by assumption) ?_
  rotate_left
  · intro w hSw; (try dsimp only at hSw); go_simp; (try with_reducible rfl)
  simp only [Act.put, List.setIfInBounds_toArray, List.set_cons_zero, List.set_cons_succ]
  refine takeR (i := 3) (v := ?_) rfl (by kernel_rfl) (by kernel_rfl) (by kernel_rfl) (some 28) rfl (Or.inl ⟨by rfl, ?_⟩) (fun _ _ _ h => h) (by assumption) ?_
  rotate_left
  · intro w hSw; (try dsimp only at hSw); go_simp; (try with_reducible rfl)
  simp only [Act.put, List.setIfInBounds_toArray, List.set_cons_zero, List.set_cons_succ]
  refine wpAnyH_ready (rs := [4]) (by kernel_rfl) (by simp) ?_
  refine AllReadyH.cons rfl (fun K hK => ?_) (AllReadyH.nil)
  go_simp
  refine (p3.out _).mono ?_
  rintro e w8 ⟨rv, rfl, h8, b8⟩
  have O8 := hide_ (OD.out.later b8)
  have hl8 : n6 = L6.length := HL6.out.symm
  refine hK.out _ _ (hHeld.trans (b8.mono hHeld.size)) (fun hHeld => ?_)
  clear hK K
  try simp only [Act.put, List.setIfInBounds_toArray, List.set_cons_zero, List.set_cons_succ]
  refine wpAnyH_ready (rs := [5]) (by kernel_rfl) (by simp) ?_
  refine AllReadyH.cons rfl (fun K hK => ?_) (AllReadyH.nil)
  refine step_copy_ownB rfl (.tmp 26) (.tmp 29) 24 rfl Try.underlying24 hsz5 w2.heap.size g6 cap6 L6 M6 rv (cap6 - 2) (by rw [← hl8]; first | rfl | simp [Act.eval, Act.put]) (by first | rfl | simp [Act.eval, Act.put]) h8 hM6 (by rw [← hl8]; exact O8.out) (by rw [← hl8]; exact h46) ?_
  intro w9 O9 b9
  refine hK.out _ _ (hHeld.trans (b9.mono (Nat.le_trans HN2.out (Nat.le_refl _)))) (fun hHeld => ?_)
  clear hK K
  try simp only [Act.put, List.setIfInBounds_toArray, List.set_cons_zero, List.set_cons_succ]
  refine wpAnyH_done (by kernel_rfl) ?_ _
  go_wp2_with fail
  go_ret2
  refine ⟨_, rfl, ?_, hHeld⟩
  rw [← HLL.out]
  exact O9.mono HN2.out

theorem aenc_yes (k p x q y f : Int) (m : Bool) (a b c d : Nat) (w : World) (ha : a < 18446744073709551616) (hb : b < 18446744073709551616) (hc : c < 18446744073709551616) (hd : d < 18446744073709551616) (h : art k p x q y f m a b c d = true) :
    Calls Try.prog 26 #[av k p x q y f m a b c d] w fun e w' => ∃ r, e = .returned (.tuple #[r, .int .i64 0]) ∧ Bytes w' r (aencL k p x q y f m a b c d) ∧ Below w.heap.size w w' := by
  refine (aenc_own k p x q y f m a b c d w ha hb hc hd h).mono fun e w' ⟨r, h1, h2, h3⟩ => ⟨r, h1, h2.bytes, h3⟩
end

end Go.Proofs.Ytadgppedodlgmaa
