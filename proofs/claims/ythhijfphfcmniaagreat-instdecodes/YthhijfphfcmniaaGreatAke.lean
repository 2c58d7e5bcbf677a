import Derived.Test.YthhijfphfcmniaaGreatAje
import Derived.Deep.RegionHeld3
import Derived.Deep.RegionWith
import Derived.Deep.MidRow
import Derived.Deep.Cut
set_option maxRecDepth 100000
set_option maxHeartbeats 8000000
set_option linter.unusedVariables false
set_option linter.unusedSimpArgs false
namespace Go.Proofs.YthhijfphfcmniaaGreat
open Go Go.RowKit
theorem body_any (k p x q y f : Int) (m : Bool) (a b c d : Nat) (w : World) (ha : a < 18446744073709551616) (hb : b < 18446744073709551616) (hc : c < 18446744073709551616) (hd : d < 18446744073709551616) (h : art k p x q y f m a b c d = true) :
    Calls Tryz.prog 116 #[.agg #[.int .i64 k, .int .i64 p, .int .i64 x, .int .i64 q, .int .i64 y, .int .i64 f, .bool m, .int .u64 (a : Int), .int .u64 (b : Int), .int .u64 (c : Int), .int .u64 (d : Int)]] w fun e w' => ∃ r, e = .returned r ∧ Bytes w' r (bodyL k p x q y f m a b c d) ∧ Below w.heap.size w w' := by
  rcases art_kind h with rfl | rfl | rfl | rfl | rfl
  · obtain ⟨h1, h2, h3, h4⟩ := art_0 h
    exact body_0 p x q y f m a b c d w (by omega) (by omega) h3 h4
  · obtain ⟨h1, h2⟩ := art_22 h
    exact body_22 p x q y f m a b c d w h1 h2
  · have h1 := art_17 h
    exact body_17 p x q y f m a b c d w (by omega) (by omega)
  · exact body_18 p x q y f m a b c d w
  · obtain ⟨h1, h2, -⟩ := art_25 h
    exact body_25 p x q y f m a b c d w ha hb hc hd h2 h1
theorem encL_le (f : Int) (m : Bool) (a b c d : Nat) : (encL f m a b c d).length ≤ 36 := by
  have h1 := cl_le (fsize f : Int) 16
  unfold encL
  cases m
  · simp only [List.append_nil, List.length_append, spl_len2, spl_len1, wtail_length]; omega
  · simp only [List.length_append, spl_len2, spl_len1, wtail_length]; omega
theorem bodyL_le (k p x q y f : Int) (m : Bool) (a b c d : Nat) : (bodyL k p x q y f m a b c d).length ≤ 36 := by
  unfold bodyL
  repeat' split
  all_goals first | exact encL_le _ _ _ _ _ _ | (simp [spl_len4, spl_len2, List.length_append])
theorem own_app {w w' : World} {base n nn : Nat} {v v' u : Value} {l m : List Int} (h : OwnB w base v l) (hB : Bytes w u m) (ho : w'.ownsRow base 5 1 v' (l.length + m.length) (u8s l ++ u8s m)) (hg : w.grownBy w' v.ownBlock) (hn : l.length + m.length = n) (h0 : 0 < n) (h1 : nn ≤ base) (h2 : nn ≤ w.heap.size) :
    ∃ g cap, v' = .slice (some ⟨g, 0, none⟩) n cap ∧ OwnB w' base (.slice (some ⟨g, 0, none⟩) n cap) (l ++ m) ∧ base ≤ g ∧ n ≤ cap ∧ cap ≤ maxLen ∧ Below nn w w' := by
  have hm : isB m := by obtain ⟨_, _, _, _, _, h, _⟩ := hB; exact h
  have O := h.grow hm ho
  obtain ⟨g, cap, e, a1, a2, a3, a4⟩ := O.form (by rw [List.length_append]; omega)
  rw [List.length_append, hn] at e a3
  subst e
  exact ⟨g, cap, rfl, O, a1, a3, a4, h.growB hg h1 h2⟩
theorem own_zeros {w w' : World} {base n m k nn : Nat} {v v' : Value} {l : List Int} (h : OwnB w base v l) (hl : l.length = n) (ho : w'.ownsRow base 5 1 v' (n + m) (u8s (l ++ List.replicate m 0))) (hg : w.grownBy w' v.ownBlock) (hn : n + m = k) (h0 : 0 < k) (h1 : nn ≤ base) (h2 : nn ≤ w.heap.size) :
    ∃ g cap, v' = .slice (some ⟨g, 0, none⟩) k cap ∧ OwnB w' base (.slice (some ⟨g, 0, none⟩) k cap) (l ++ List.replicate m 0) ∧ base ≤ g ∧ k ≤ cap ∧ cap ≤ maxLen ∧ Below nn w w' := by
  have O : OwnB w' base v' (l ++ List.replicate m 0) := ⟨by rw [List.length_append, List.length_replicate, hl]; exact ho, h.2.app (isB_zeros m)⟩
  obtain ⟨g, cap, e, a1, a2, a3, a4⟩ := O.form (by rw [List.length_append, List.length_replicate]; omega)
  rw [List.length_append, List.length_replicate, hl, hn] at e a3
  subst e
  exact ⟨g, cap, rfl, O, a1, a3, a4, h.growB hg h1 h2⟩
theorem slice2 (g n cap : Nat) (h1 : 4 ≤ n) (h2 : n ≤ cap) (wx : World) : (Instr.slice 25 (.slice (some ⟨g, 0, none⟩) n cap) (some (.int .i64 2)) none none).run Tryz.prog wx = .ok (.slice (some ⟨g, 2, none⟩) (n - 2) (cap - 2)) wx := by
  rw [run_slice_l wx 25 (some ⟨g, 0, none⟩) n cap u51 .i64 2 (by omega) (by omega), sz51]
  have h3 : ¬ cap = 2 := by omega
  simp [sliced, h3, Addr.add_lit]
theorem r8_ge (n : Nat) : n ≤ r8 n := by unfold r8; omega
theorem r8_le (n : Nat) : r8 n ≤ n + 7 := by unfold r8; omega
theorem put_own (v : Value) (l : List Int) (n s : Int) (w : World) (hB : Bytes w v l) (hl : l.length ≤ 1000) (hr : rightB n s = true) (hs : isB (spl n s)) :
    Calls Tryz.prog 73 #[v, .int .i64 n, .int .i64 s] w fun e w' => ∃ r, e = .returned r ∧ OwnB w' w.heap.size r (l ++ spl n s) ∧ Below w.heap.size w w' :=
  (put_any v l n s w hB (by omega) hr).mono fun e w' ⟨r, h1, h2, h3⟩ => ⟨r, h1, ⟨h2, by
    obtain ⟨_, _, _, _, _, hb, _⟩ := hB
    exact hb.app hs⟩, h3⟩
theorem aenc_list (k p x q y f : Int) (m : Bool) (a b c d : Nat) (n : Nat) (hn : 4 + (bodyL k p x q y f m a b c d).length = n) :
    (([] ++ spl k 2 ++ spl 0 2 ++ bodyL k p x q y f m a b c d ++ List.replicate (r8 n - n) 0).take 2 ++ ([] ++ spl ((r8 n : Nat) : Int) 2) ++ ([] ++ spl k 2 ++ spl 0 2 ++ bodyL k p x q y f m a b c d ++ List.replicate (r8 n - n) 0).drop 4) = aencL k p x q y f m a b c d := by
  subst hn
  unfold aencL
  generalize bodyL k p x q y f m a b c d = B
  generalize r8 (4 + B.length) = r
  simp [spl]
theorem aenc_no (k p x q y f : Int) (m : Bool) (a b c d : Nat) (w : World) (ha : a < 18446744073709551616) (hb : b < 18446744073709551616) (hc : c < 18446744073709551616) (hd : d < 18446744073709551616) (h : art k p x q y f m a b c d = false) :
    Calls Tryz.prog 85 #[av k p x q y f m a b c d] w fun e w' => e = .returned (.tuple #[.slice none 0 0, .int .i64 1]) ∧ Below w.heap.size w w' := by
  have B0 := h_ (below1 w (.cells #[.int .i64 k, .int .i64 p, .int .i64 x, .int .i64 q, .int .i64 y, .int .i64 f, .bool m, .int .u64 (a : Int), .int .u64 (b : Int), .int .u64 (c : Int), .int .u64 (d : Int)] 61))
  have q1 := fun w => aright_any k p x q y f m a b c d w ha hb hc hd
  rw [h] at q1
  have q1 := h_ q1
  unfold av at *
  clear ha hb hc hd h
  go_enter Tryz.func85, Tryz.ntmps85
  go_wp2_with (go_at_call 115; refine (q1.out _).mono ?_; rintro e w1 ⟨rfl, b1⟩)
  go_ret2
  exact ⟨rfl, B0.out.trans (b1.mono B0.out.size)⟩
theorem aenc_own (k p x q y f : Int) (m : Bool) (a b c d : Nat) (w : World) (ha : a < 18446744073709551616) (hb : b < 18446744073709551616) (hc : c < 18446744073709551616) (hd : d < 18446744073709551616) (h : art k p x q y f m a b c d = true) :
    Calls Tryz.prog 85 #[av k p x q y f m a b c d] w fun e w' => ∃ r, e = .returned (.tuple #[r, .int .i64 0]) ∧ OwnB w' w.heap.size r (aencL k p x q y f m a b c d) ∧ Below w.heap.size w w' := by
  have A0 := h_ (AB.at0 w 61 [.int .i64 k, .int .i64 p, .int .i64 x, .int .i64 q, .int .i64 y, .int .i64 f, .bool m, .int .u64 (a : Int), .int .u64 (b : Int), .int .u64 (c : Int), .int .u64 (d : Int)])
  have B0 := h_ (below1 w (.cells #[.int .i64 k, .int .i64 p, .int .i64 x, .int .i64 q, .int .i64 y, .int .i64 f, .bool m, .int .u64 (a : Int), .int .u64 (b : Int), .int .u64 (c : Int), .int .u64 (d : Int)] 61))
  have q1 := fun w => aright_any k p x q y f m a b c d w ha hb hc hd
  rw [h] at q1
  have q1 := h_ q1
  have hk : 0 ≤ k ∧ k ≤ 25 := by rcases art_kind h with rfl | rfl | rfl | rfl | rfl <;> omega
  have p1 := h_ (fun w => nput_any (.slice none 0 0) [] k 2 w (Bytes.nil w) (by simp) (rightB_in2 (by omega) (by omega)) (isB_spl2 _))
  have p2 := h_ (fun v w hB => put_own v ([] ++ spl k 2) 0 2 w hB (by simp [spl_len2]) (by decide) (isB_spl2 _))
  have q3 := h_ (fun w => body_any k p x q y f m a b c d w ha hb hc hd h)
  have hbl := bodyL_le k p x q y f m a b c d
  obtain ⟨n, hn⟩ : ∃ n, 4 + (bodyL k p x q y f m a b c d).length = n := ⟨_, rfl⟩
  have HLL := h_ (aenc_list k p x q y f m a b c d n hn)
  have hL0 : ([] ++ spl k 2 ++ spl 0 2).length = 4 := by simp [spl_len2]
  have hr1 := r8_ge n
  have hr2 := r8_le n
  have hn4 : 4 ≤ n := by omega
  have hn40 : n ≤ 40 := by omega
  have qr := h_ (fun w => round_any n w (by omega))
  have p3 := h_ (fun w => nput_any (.slice none 0 0) [] ((r8 n : Nat) : Int) 2 w (Bytes.nil w) (by simp) (rightB_in2 (by omega) (by omega)) (isB_spl2 _))
  have hM6 : ([] ++ spl ((r8 n : Nat) : Int) 2).length = 2 := by simp [spl_len2]
  generalize [] ++ spl ((r8 n : Nat) : Int) 2 = M6 at *
  obtain ⟨n6, hn6⟩ : ∃ n6, r8 n = n6 := ⟨_, rfl⟩
  rw [hn6] at hr1 hr2 qr p3
  have HLL := h_ HLL.out
  rw [hn6] at HLL
  have hsub : IntKind.i64.wrap ((n6 : Int) - (n : Int)) = ((n6 - n : Nat) : Int) := by rw [IntKind.wrap_i64]; omega
  clear hn6
  generalize [] ++ spl k 2 ++ spl 0 2 = L0 at *
  generalize [] ++ spl k 2 = L1 at *
  generalize aencL k p x q y f m a b c d = LL at *
  generalize bodyL k p x q y f m a b c d = B at *
  obtain ⟨i0, hi0, hz0, hz1, hz2⟩ := info_parts info5
  have hsz5 : (Tryz.prog.info? 5).map (·.size) = some 1 := by rw [hi0]; exact congrArg some hz1
  have HI : Hid (Tryz.prog.info? 5 = some i0 ∧ i0.zero = some (.int .u8 0) ∧ i0.size = 1 ∧ i0.bytes = 1) := ⟨hi0, hz0, hz1, hz2⟩
  clear hi0 hz0 hz1 hz2 hk h
  unfold av at *
  clear ha hb hc hd
  go_enter Tryz.func85, Tryz.ntmps85
  go_wp2_with (first | (go_at_call 115; refine (q1.out _).mono ?_; rintro e w1 ⟨rfl, k1⟩; obtain ⟨y0, y1, y2, y3, y4, y5, y6, y7, y8, y9, y10, -⟩ := (A0.out.later k1).eleven) | (go_at_call_of 73 (Value.slice none 0 0); refine (p1.out _).mono ?_; rintro e w2 ⟨r1, rfl, h1, b2⟩; have k2 := k1.trans (b2.mono k1.size); have h1 := h_ h1) | (go_at_call 73; refine (p2.out _ _ h1.out).mono ?_; rintro e w3 ⟨r2, rfl, h2, b3⟩; have k3 := k2.trans (b3.mono k2.size); have h2 := h_ h2; obtain ⟨z0, z1, z2, z3, z4, z5, z6, z7, z8, z9, z10, -⟩ := (A0.out.later k3).eleven) | (go_at_call 116; refine (q3.out _).mono ?_; rintro e w4 ⟨r3, rfl, h3, b4⟩; have k4 := k3.trans (b4.mono k3.size); have h3 := h_ h3; have h2 := h_ (h2.out.later b4); have hb4 : w2.heap.size ≤ w4.heap.size := Nat.le_trans b3.size b4.size) | (at_builtin; refine wpList_append_ownB rfl (.tmp 13) (.tmp 15) 25 rfl w2.heap.size 5 i0 Tryz.underlying25 HI.out.1 HI.out.2.1 HI.out.2.2.1 HI.out.2.2.2 r2 L0.length (u8s L0) (by simp [Act.eval, Act.put]) h2.out.1 r3 B (by simp [Act.eval, Act.put]) h3.out (by omega) hb4 ?_; intro v5 w5 own5 hg5; obtain ⟨g5, cap5, rfl, O5, a1, a2, a3, b5⟩ := own_app (n := n) (nn := w.heap.size) h2.out h3.out own5 hg5 (by omega) (by omega) (Nat.le_trans B0.out.size k2.size) (Nat.le_trans B0.out.size k4.size); have O5 := h_ O5; have hs5 : w2.heap.size ≤ w5.heap.size := Nat.le_trans hb4 hg5.size; have K5 := h_ ((B0.out.trans (k4.mono B0.out.size)).trans b5); have hl5 : (L0 ++ B).length = n := by rw [List.length_append]; omega) | (go_at_call 117; refine (qr.out _).mono ?_; rintro e w' ⟨rfl, rfl⟩) | (at_builtin; refine wpList_append_zerosB rfl (.tmp 17) (.tmp 23) 25 3 rfl w2.heap.size 5 i0 Tryz.underlying25 Tryz.underlying3 HI.out.1 HI.out.2.1 HI.out.2.2.1 HI.out.2.2.2 (.slice (some ⟨g5, 0, none⟩) n cap5) n (L0 ++ B) (by simp [Act.eval, Act.put]) (by have := O5.out.1; rw [hl5] at this; exact this) (by omega) (n6 - n) (by simp [Act.eval, Act.put]) (by omega) hs5 ?_; intro v6 w6 own6 hg6; obtain ⟨g6, cap6, rfl, O6, c1, c2, c3, b6⟩ := own_zeros (k := n6) (nn := w.heap.size) O5.out hl5 own6 hg6 (by omega) (by omega) (Nat.le_trans B0.out.size k2.size) K5.out.size; have O6 := h_ O6; have K6 := h_ (K5.out.trans b6); have HL6 : Hid ((L0 ++ B ++ List.replicate (n6 - n) 0).length = n6) := h_ (by rw [List.length_append, List.length_replicate, hl5]; omega)))
  have HN2 := h_ (Nat.le_trans B0.out.size k2.size)
  generalize L0 ++ B ++ List.replicate (n6 - n) 0 = L6 at *
  have h46 : 4 ≤ n6 := by omega
  have hsl := fun wx => slice2 g6 n6 cap6 h46 c2 wx
  clear O5 K5 h1 h2 h3 own5 own6 hg5 hg6 A0 B0 k1 k2 k3 k4 b2 b3 b4 b5 b6
  refine wp_region_held_drew (S := (fun w' => Below w.heap.size w w')) (by kernel_rfl) (K6.out.drew) (fun hHeld => ?_)
  have OD := h_ (O6.out.later ((Below.refl _ _).drew : Below w6.heap.size w6 w6.drew))
  generalize w6.drew = D at *
  refine tR 0 ?_ (some 25) rfl (by kernel_rfl) rfl (by rfl) ?_ (fun _ _ _ h => h) (by assumption) ?_
  rotate_left
  · intro w hSw; (try dsimp only at hSw); go_simp; (try with_reducible rfl)
  simp only [Act.put, sIb, sCz, sCs]
  refine tR 1 ?_ (some 26) rfl (by kernel_rfl) rfl (by rfl) ?_ (fun _ _ _ h => h) (by assumption) ?_
  rotate_left
  · intro w hSw; (try dsimp only at hSw); go_simp; (try with_reducible rfl)
  simp only [Act.put, sIb, sCz, sCs]
  refine tR 2 ?_ (some 27) rfl (by kernel_rfl) rfl (by rfl) ?_ (fun _ _ _ h => h) (by assumption) ?_
  rotate_left
  · intro w hSw; (try dsimp only at hSw); go_simp; (try with_reducible rfl)
  simp only [Act.put, sIb, sCz, sCs]
  refine tR 3 ?_ (some 28) rfl (by kernel_rfl) rfl (by rfl) ?_ (fun _ _ _ h => h) (by assumption) ?_
  rotate_left
  · intro w hSw; (try dsimp only at hSw); go_simp; (try with_reducible rfl)
  simp only [Act.put, sIb, sCz, sCs]
  refine wpAnyH_ready (rs := [4]) (by kernel_rfl) (by simp) ?_
  refine AllReadyH.cons rfl (fun K hK => ?_) (AllReadyH.nil)
  go_simp
  refine (p3.out _).mono ?_
  rintro e w8 ⟨rv, rfl, h8, b8⟩
  have O8 := h_ (OD.out.later b8)
  have hl8 : n6 = L6.length := HL6.out.symm
  refine hK.out _ _ (hHeld.trans (b8.mono hHeld.size)) (fun hHeld => ?_)
  clear hK K
  try simp only [Act.put, sIb, sCz, sCs]
  refine wpAnyH_ready (rs := [5]) (by kernel_rfl) (by simp) ?_
  refine AllReadyH.cons rfl (fun K hK => ?_) (AllReadyH.nil)
  refine step_copy_ownB rfl (.tmp 26) (.tmp 29) 25 rfl Tryz.underlying25 hsz5 w2.heap.size g6 cap6 L6 M6 rv (cap6 - 2) (by rw [← hl8]; first | rfl | simp [Act.eval, Act.put]) (by first | rfl | simp [Act.eval, Act.put]) h8 hM6 (by rw [← hl8]; exact O8.out) (by rw [← hl8]; exact h46) ?_
  intro w9 O9 b9
  refine hK.out _ _ (hHeld.trans (b9.mono (Nat.le_trans HN2.out (Nat.le_refl _)))) (fun hHeld => ?_)
  clear hK K
  try simp only [Act.put, sIb, sCz, sCs]
  refine wpAnyH_done (by kernel_rfl) ?_ _
  go_wp2_with fail
  go_ret2
  refine ⟨_, rfl, ?_, hHeld⟩
  rw [← HLL.out]
  exact O9.mono HN2.out
end Go.Proofs.YthhijfphfcmniaaGreat
