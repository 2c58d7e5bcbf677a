import Derived.Test.YthhijfphfcmniaaGreatAie
import Derived.Test.YthhijfphfcmniaaGreatAee
import Derived.Test.YthhijfphfcmniaaGreatOie
import Derived.Deep.RegionHeld3
import Derived.Deep.RegionWith
import Derived.Deep.MidRow
import Derived.Deep.Cut
set_option maxRecDepth 100000
set_option maxHeartbeats 8000000
set_option linter.unusedVariables false
set_option linter.unusedSimpArgs false
namespace Go.Proofs.YthhijfphfcmniaaGreat
open Go Go.RowKit
def bodyL (k p x q y f : Int) (m : Bool) (a b c d : Nat) : List Int := if k = 0 then spl p 4 ++ spl x 2 else if k = 22 then spl q 4 else if k = 17 then spl y 2 else if k = 25 then encL f m a b c d else []
def aencL (k p x q y f : Int) (m : Bool) (a b c d : Nat) : List Int := spl k 2 ++ spl ((r8 (4 + (bodyL k p x q y f m a b c d).length) : Nat) : Int) 2 ++ (bodyL k p x q y f m a b c d ++ List.replicate (r8 (4 + (bodyL k p x q y f m a b c d).length) - (4 + (bodyL k p x q y f m a b c d).length)) 0)
theorem spl_len4 (n : Int) : (spl n 4).length = 4 := by simp [spl]
theorem isB_spl4 {n : Int} (h0 : 0 ≤ n) (h1 : n ≤ 4294967295) : isB (spl n 4) := by
  intro z hz
  simp [spl] at hz
  rcases hz with rfl | rfl | rfl | rfl <;> omega
theorem art_kind {k p x q y f : Int} {m : Bool} {a b c d : Nat} (h : art k p x q y f m a b c d = true) : k = 0 ∨ k = 22 ∨ k = 17 ∨ k = 18 ∨ k = 25 := by
  unfold art achk at h
  by_cases h0 : k = 0
  · exact .inl h0
  by_cases h22 : k = 22
  · exact .inr (.inl h22)
  by_cases h17 : k = 17
  · exact .inr (.inr (.inl h17))
  by_cases h18 : k = 18
  · exact .inr (.inr (.inr (.inl h18)))
  by_cases h25 : k = 25
  · exact .inr (.inr (.inr (.inr h25)))
  · simp [h0, h22, h17, h18, h25] at h
theorem art_0 {p x q y f : Int} {m : Bool} {a b c d : Nat} (h : art 0 p x q y f m a b c d = true) : 1 ≤ p ∧ p ≤ 4294967293 ∧ 0 ≤ x ∧ x ≤ 65535 := by
  unfold art achk at h
  simp only [if_true] at h
  cases hg : goB p
  · simp [hg] at h
  · cases ht : tkB p x
    · simp [hg, ht] at h
    · unfold goB at hg
      unfold tkB at ht
      split at ht <;> simp at hg ht <;> omega
theorem art_22 {p x q y f : Int} {m : Bool} {a b c d : Nat} (h : art 22 p x q y f m a b c d = true) : 0 ≤ q ∧ q ≤ 4294967040 := by
  unfold art achk at h
  by_cases h1 : 0 ≤ q
  · by_cases h2 : q ≤ 4294967040
    · exact ⟨h1, h2⟩
    · simp [h1, h2] at h
  · simp [h1] at h
theorem art_17 {p x q y f : Int} {m : Bool} {a b c d : Nat} (h : art 17 p x q y f m a b c d = true) : y = 33024 ∨ y = 34984 := by
  unfold art achk at h
  by_cases h1 : y = 33024
  · exact .inl h1
  · by_cases h2 : y = 34984
    · exact .inr h2
    · simp [h1, h2] at h
theorem art_25 {p x q y f : Int} {m : Bool} {a b c d : Nat} (h : art 25 p x q y f m a b c d = true) : rgt f m a b c d = true ∧ m = false ∧ setsB f = true ∧ p = 0 ∧ x = 0 ∧ q = 0 ∧ y = 0 := by
  unfold art achk ownE at h
  cases hr : rgt f m a b c d
  · simp [hr] at h
  · cases hs : setsB f
    · simp [hs] at h
    · cases hm : m
      · simp [hs, hm] at h
        exact ⟨rfl, rfl, rfl, h.1.1, h.1.2.1, h.1.2.2.1, h.1.2.2.2⟩
      · simp [hs, hm] at h
theorem body_22 (p x q y f : Int) (m : Bool) (a b c d : Nat) (w : World) (h0 : 0 ≤ q) (h1 : q ≤ 4294967040) :
    Calls Tryz.prog 116 #[.agg #[.int .i64 22, .int .i64 p, .int .i64 x, .int .i64 q, .int .i64 y, .int .i64 f, .bool m, .int .u64 (a : Int), .int .u64 (b : Int), .int .u64 (c : Int), .int .u64 (d : Int)]] w fun e w' => ∃ r, e = .returned r ∧ Bytes w' r ([] ++ spl q 4) ∧ Below w.heap.size w w' := by
  have A0 := h_ (AB.at0 w 61 [.int .i64 22, .int .i64 p, .int .i64 x, .int .i64 q, .int .i64 y, .int .i64 f, .bool m, .int .u64 (a : Int), .int .u64 (b : Int), .int .u64 (c : Int), .int .u64 (d : Int)])
  have B0 := h_ (below1 w (.cells #[.int .i64 22, .int .i64 p, .int .i64 x, .int .i64 q, .int .i64 y, .int .i64 f, .bool m, .int .u64 (a : Int), .int .u64 (b : Int), .int .u64 (c : Int), .int .u64 (d : Int)] 61))
  have p1 := h_ (fun w => nput_any (.slice none 0 0) [] q 4 w (Bytes.nil w) (by simp) (rightB_in4 h0 (by omega)) (isB_spl4 h0 (by omega)))
  clear h0 h1
  go_enter Tryz.func116, Tryz.ntmps116
  go_wp2_with (go_at_call 73; refine (p1.out _).mono ?_; rintro e w1 ⟨r1, rfl, h1, b1⟩)
  go_ret
  exact ⟨_, rfl, h1, B0.out.trans (b1.mono B0.out.size)⟩
theorem body_17 (p x q y f : Int) (m : Bool) (a b c d : Nat) (w : World) (h0 : 0 ≤ y) (h1 : y ≤ 65535) :
    Calls Tryz.prog 116 #[.agg #[.int .i64 17, .int .i64 p, .int .i64 x, .int .i64 q, .int .i64 y, .int .i64 f, .bool m, .int .u64 (a : Int), .int .u64 (b : Int), .int .u64 (c : Int), .int .u64 (d : Int)]] w fun e w' => ∃ r, e = .returned r ∧ Bytes w' r ([] ++ spl y 2) ∧ Below w.heap.size w w' := by
  have A0 := h_ (AB.at0 w 61 [.int .i64 17, .int .i64 p, .int .i64 x, .int .i64 q, .int .i64 y, .int .i64 f, .bool m, .int .u64 (a : Int), .int .u64 (b : Int), .int .u64 (c : Int), .int .u64 (d : Int)])
  have B0 := h_ (below1 w (.cells #[.int .i64 17, .int .i64 p, .int .i64 x, .int .i64 q, .int .i64 y, .int .i64 f, .bool m, .int .u64 (a : Int), .int .u64 (b : Int), .int .u64 (c : Int), .int .u64 (d : Int)] 61))
  have p1 := h_ (fun w => nput_any (.slice none 0 0) [] y 2 w (Bytes.nil w) (by simp) (rightB_in2 h0 (by omega)) (isB_spl2 _))
  clear h0 h1
  go_enter Tryz.func116, Tryz.ntmps116
  go_wp2_with (go_at_call 73; refine (p1.out _).mono ?_; rintro e w1 ⟨r1, rfl, h1, b1⟩)
  go_ret
  exact ⟨_, rfl, h1, B0.out.trans (b1.mono B0.out.size)⟩
theorem body_18 (p x q y f : Int) (m : Bool) (a b c d : Nat) (w : World) :
    Calls Tryz.prog 116 #[.agg #[.int .i64 18, .int .i64 p, .int .i64 x, .int .i64 q, .int .i64 y, .int .i64 f, .bool m, .int .u64 (a : Int), .int .u64 (b : Int), .int .u64 (c : Int), .int .u64 (d : Int)]] w fun e w' => ∃ r, e = .returned r ∧ Bytes w' r ([]) ∧ Below w.heap.size w w' := by
  have A0 := h_ (AB.at0 w 61 [.int .i64 18, .int .i64 p, .int .i64 x, .int .i64 q, .int .i64 y, .int .i64 f, .bool m, .int .u64 (a : Int), .int .u64 (b : Int), .int .u64 (c : Int), .int .u64 (d : Int)])
  have B0 := h_ (below1 w (.cells #[.int .i64 18, .int .i64 p, .int .i64 x, .int .i64 q, .int .i64 y, .int .i64 f, .bool m, .int .u64 (a : Int), .int .u64 (b : Int), .int .u64 (c : Int), .int .u64 (d : Int)] 61))
  go_enter Tryz.func116, Tryz.ntmps116
  go_wp2_with fail
  go_ret
  exact ⟨_, rfl, Bytes.nil _, B0.out⟩
theorem body_25 (p x q y f : Int) (m : Bool) (a b c d : Nat) (w : World) (ha : a < 18446744073709551616) (hb : b < 18446744073709551616) (hc : c < 18446744073709551616) (hd : d < 18446744073709551616) (hm : m = false) (h : rgt f m a b c d = true) :
    Calls Tryz.prog 116 #[.agg #[.int .i64 25, .int .i64 p, .int .i64 x, .int .i64 q, .int .i64 y, .int .i64 f, .bool m, .int .u64 (a : Int), .int .u64 (b : Int), .int .u64 (c : Int), .int .u64 (d : Int)]] w fun e w' => ∃ r, e = .returned r ∧ Bytes w' r (encL f m a b c d) ∧ Below w.heap.size w w' := by
  have A0 := h_ (AB.at0 w 61 [.int .i64 25, .int .i64 p, .int .i64 x, .int .i64 q, .int .i64 y, .int .i64 f, .bool m, .int .u64 (a : Int), .int .u64 (b : Int), .int .u64 (c : Int), .int .u64 (d : Int)])
  have B0 := h_ (below1 w (.cells #[.int .i64 25, .int .i64 p, .int .i64 x, .int .i64 q, .int .i64 y, .int .i64 f, .bool m, .int .u64 (a : Int), .int .u64 (b : Int), .int .u64 (c : Int), .int .u64 (d : Int)] 61))
  subst hm
  have q1 := h_ (fun w => oenc_yes0 f a b c d w ha hb hc hd h)
  unfold ov at q1
  clear ha hb hc hd h
  generalize encL f false a b c d = L at *
  go_enter Tryz.func116, Tryz.ntmps116
  go_wp2_with (go_at_call 140; refine (q1.out _).mono ?_; rintro e w1 ⟨r1, rfl, h1, b1⟩)
  go_ret
  exact ⟨_, rfl, h1, B0.out.trans (b1.mono B0.out.size)⟩
theorem body_0 (p x q y f : Int) (m : Bool) (a b c d : Nat) (w : World) (h0 : 0 ≤ p) (h1 : p ≤ 4294967295) (h2 : 0 ≤ x) (h3 : x ≤ 65535) :
    Calls Tryz.prog 116 #[.agg #[.int .i64 0, .int .i64 p, .int .i64 x, .int .i64 q, .int .i64 y, .int .i64 f, .bool m, .int .u64 (a : Int), .int .u64 (b : Int), .int .u64 (c : Int), .int .u64 (d : Int)]] w fun e w' => ∃ r, e = .returned r ∧ Bytes w' r ([] ++ spl p 4 ++ spl x 2) ∧ Below w.heap.size w w' := by
  have A0 := h_ (AB.at0 w 61 [.int .i64 0, .int .i64 p, .int .i64 x, .int .i64 q, .int .i64 y, .int .i64 f, .bool m, .int .u64 (a : Int), .int .u64 (b : Int), .int .u64 (c : Int), .int .u64 (d : Int)])
  have B0 := h_ (below1 w (.cells #[.int .i64 0, .int .i64 p, .int .i64 x, .int .i64 q, .int .i64 y, .int .i64 f, .bool m, .int .u64 (a : Int), .int .u64 (b : Int), .int .u64 (c : Int), .int .u64 (d : Int)] 61))
  have p1 := h_ (fun w => nput_any (.slice none 0 0) [] p 4 w (Bytes.nil w) (by simp) (rightB_in4 h0 (by omega)) (isB_spl4 h0 h1))
  have p2 := h_ (fun v w hB => nput_any v ([] ++ spl p 4) x 2 w hB (by simp [spl_len4]) (rightB_in2 h2 (by omega)) (isB_spl2 _))
  clear h0 h1 h2 h3
  obtain ⟨c0, c1, c2, c3, c4, c5, c6, c7, c8, c9, c10, -⟩ := A0.out.eleven
  go_enter Tryz.func116, Tryz.ntmps116
  go_wp2_with fail
  generalize w.alloc (.cells #[.int .i64 0, .int .i64 p, .int .i64 x, .int .i64 q, .int .i64 y, .int .i64 f, .bool m, .int .u64 (a : Int), .int .u64 (b : Int), .int .u64 (c : Int), .int .u64 (d : Int)] 61) = W at *
  refine wp_region_held_drew (S := (fun w' => w'.cell? ⟨w.heap.size, 1, none⟩ = some (.int .i64 p) ∧ w'.cell? ⟨w.heap.size, 2, none⟩ = some (.int .i64 x) ∧ w'.cell? ⟨w.heap.size, 0, none⟩ = some (.int .i64 0) ∧ Below w.heap.size w w')) (by kernel_rfl) (⟨c1, c2, c0, B0.out.drew⟩) (fun hHeld => ?_)
  refine tR 0 ?_ (some 9) rfl (by kernel_rfl) rfl (by rfl) ?_ (fun _ _ _ h => h) (by assumption) ?_
  rotate_left
  · intro w hSw; (try dsimp only at hSw); go_simp; (try with_reducible rfl)
  simp only [Act.put, sIb, sCz, sCs]
  refine tR 1 ?_ (some 10) rfl (by kernel_rfl) rfl (by rfl) ?_ (fun _ _ _ h => h) (by assumption) ?_
  rotate_left
  · intro w hSw; (try dsimp only at hSw); go_simp; (try with_reducible rfl)
  simp only [Act.put, sIb, sCz, sCs]
  refine tR 3 ?_ (some 12) rfl (by kernel_rfl) rfl (by rfl) ?_ (fun _ _ _ h => h) (by assumption) ?_
  rotate_left
  · intro w hSw; (try dsimp only at hSw); go_simp; (try with_reducible rfl)
  simp only [Act.put, sIb, sCz, sCs]
  refine tR 4 ?_ (some 13) rfl (by kernel_rfl) rfl (by rfl) ?_ (fun _ _ _ h => h) (by assumption) ?_
  rotate_left
  · intro w hSw; (try dsimp only at hSw); go_simp; (try with_reducible rfl)
  simp only [Act.put, sIb, sCz, sCs]
  refine wpAnyH_ready (rs := [2]) (by kernel_rfl) (by simp) ?_
  refine AllReadyH.cons rfl (fun K hK => ?_) (AllReadyH.nil)
  go_simp
  refine (p1.out _).mono ?_
  rintro e w1 ⟨r1, rfl, h1, b1⟩
  have h1 := h_ h1
  refine hK.out _ _ (kN3 b1 hHeld) (fun hHeld => ?_)
  clear hK K
  try simp only [Act.put, sIb, sCz, sCs]
  refine wpAnyH_ready (rs := [5]) (by kernel_rfl) (by simp) ?_
  refine AllReadyH.cons rfl (fun K hK => ?_) (AllReadyH.nil)
  go_simp
  refine (p2.out _ _ h1.out).mono ?_
  rintro e w2 ⟨r2, rfl, h2, b2⟩
  have h2 := h_ h2
  refine hK.out _ _ (kN3 b2 hHeld) (fun hHeld => ?_)
  clear hK K
  try simp only [Act.put, sIb, sCz, sCs]
  refine tR 6 ?_ (some 2) rfl (by kernel_rfl) rfl (by rfl) ?_ (fun _ _ _ h => h) (by assumption) ?_
  rotate_left
  · intro w hSw; (try dsimp only at hSw); go_simp; (try with_reducible rfl)
  simp only [Act.put, sIb, sCz, sCs]
  refine wpAnyH_done (by kernel_rfl) ?_ _
  go_wp2_with fail
  go_ret
  exact ⟨_, rfl, h2.out, hHeld.2.2.2⟩
end Go.Proofs.YthhijfphfcmniaaGreat
