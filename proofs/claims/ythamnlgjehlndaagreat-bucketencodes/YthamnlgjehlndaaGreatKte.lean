import Derived.Test.YthamnlgjehlndaaGreatKNe
import Derived.Test.YthamnlgjehlndaaGreatKRe
import Derived.Deep.RegionHeld3
import Derived.Deep.RegionWith
import Derived.Deep.MidRow
import Derived.Deep.Cut
namespace Go.Proofs.YthamnlgjehlndaaGreat
open Go Go.RowKit
set_option linter.unusedVariables false
set_option linter.unusedSimpArgs false

set_option maxRecDepth 100000 in
set_option maxHeartbeats 8000000 in
theorem wclo15_any (a b c : Int) (s : Option Addr) (cap : Nat) (L : List A11) (n : Nat) (w : World) (hn : L.length = n) (hL : ActAt w (.slice s n cap) L) (hF : AFit L) :
    Calls Tryz.prog 30 #[.agg #[.int .i64 a, .int .i64 b, .int .i64 c, .slice s n cap]] w fun e w' => e = .returned (.bool false) ∧ Below w.heap.size w w' := by
  have B0 := hide_ (below1 w (.cells #[.int .i64 a, .int .i64 b, .int .i64 c, .slice s n cap] 54))
  have hLV := hide_ (hL.later B0.out)
  obtain ⟨x0, x1, x2, x3, -⟩ := (AB.at0 w 54 [.int .i64 a, .int .i64 b, .int .i64 c, .slice s n cap]).k4
  have e0 : (bkR (a, b, c, L) != bkR (a, b, c, L)) = false := by simp
  obtain ⟨V, hV⟩ : ∃ V, w.alloc (.cells #[.int .i64 a, .int .i64 b, .int .i64 c, .slice s n cap] 54) = V := ⟨_, rfl⟩
  have HV := hide_ hV
  rw [hV] at hLV x0 x1 x2 x3
  have q1 := fun W (hW : Below V.heap.size V W) => bright_any a b c _ L W (hLV.out.later hW) hF
  have q2 := fun W (hW : Below V.heap.size V W) => rbright_any a b c _ L W (hLV.out.later hW) hF
  generalize bkR (a, b, c, L) = z at *
  have BV : Hid (Below w.heap.size w V) := hide_ (hV ▸ B0.out)
  clear hL hF hV B0
  have q1 := hide_ q1
  have q2 := hide_ q2
  go_enter Tryz.func30, Tryz.ntmps30
  go_wp2_with fail
  rw [HV.out]
  try simp only [Act.put]
  refine wp_region_held_drew (S := (fun w' => Below V.heap.size V w')) (by kernel_rfl) ((Below.refl _ _).drew) (fun hHeld => ?_)
  have kb0 : Below V.heap.size V V.drew := (Below.refl _ _).drew
  generalize V.drew = D0 at *
  refine takeR (i := 0) (v := ?_) rfl (by kernel_rfl) (by kernel_rfl) (by kernel_rfl) (some 3) rfl (Or.inl ⟨by rfl, ?_⟩) (fun _ _ _ h => h) (by assumption) ?_
  rotate_left
  · intro w hSw; (try dsimp only at hSw); have hc0 := cell_later hSw x0; have hc1 := cell_later hSw x1; have hc2 := cell_later hSw x2; have hc3 := cell_later hSw x3; go_simp; (try with_reducible rfl)
  simp only [Act.put, List.setIfInBounds_toArray, List.set_cons_zero, List.set_cons_succ]
  refine takeR (i := 2) (v := ?_) rfl (by kernel_rfl) (by kernel_rfl) (by kernel_rfl) (some 5) rfl (Or.inl ⟨by rfl, ?_⟩) (fun _ _ _ h => h) (by assumption) ?_
  rotate_left
  · intro w hSw; (try dsimp only at hSw); have hc0 := cell_later hSw x0; have hc1 := cell_later hSw x1; have hc2 := cell_later hSw x2; have hc3 := cell_later hSw x3; go_simp; (try with_reducible rfl)
  simp only [Act.put, List.setIfInBounds_toArray, List.set_cons_zero, List.set_cons_succ]
  refine wpAnyH_ready (rs := [1]) (by kernel_rfl) (by simp) ?_
  refine AllReadyH.cons rfl (fun K hK => ?_) (AllReadyH.nil)
  go_simp
  go_at_call 31
  refine (q1.out _ kb0).mono ?_
  rintro e D1 ⟨rfl, bj⟩
  refine hK.out _ _ (kb0.trans (bj.mono kb0.size)) (fun hHeld => ?_)
  clear hK K
  try simp only [Act.put, List.setIfInBounds_toArray, List.set_cons_zero, List.set_cons_succ]
  have kb1 := kb0.trans (bj.mono kb0.size)
  clear bj
  refine wpAnyH_ready (rs := [3]) (by kernel_rfl) (by simp) ?_
  refine AllReadyH.cons rfl (fun K hK => ?_) (AllReadyH.nil)
  go_simp
  go_at_call 32
  refine (q2.out _ kb1).mono ?_
  rintro e D2 ⟨rfl, bj⟩
  refine hK.out _ _ (kb1.trans (bj.mono kb1.size)) (fun hHeld => ?_)
  clear hK K
  try simp only [Act.put, List.setIfInBounds_toArray, List.set_cons_zero, List.set_cons_succ]
  have kb2 := kb1.trans (bj.mono kb1.size)
  clear bj
  refine takeR (i := 4) (v := ?_) rfl (by kernel_rfl) (by kernel_rfl) (by kernel_rfl) (some 7) rfl (Or.inl ⟨by rfl, ?_⟩) (fun _ _ _ h => h) (by assumption) ?_
  rotate_left
  · intro w hSw; (try dsimp only at hSw); go_simp; (try with_reducible rfl)
  simp only [Act.put, List.setIfInBounds_toArray, List.set_cons_zero, List.set_cons_succ]
  refine takeR (i := 5) (v := ?_) rfl (by kernel_rfl) (by kernel_rfl) (by kernel_rfl) (some 2) rfl (Or.inl ⟨by rfl, ?_⟩) (fun _ _ _ h => h) (by assumption) ?_
  rotate_left
  · intro w hSw; (try dsimp only at hSw); go_simp; (try with_reducible rfl)
  simp only [Act.put, List.setIfInBounds_toArray, List.set_cons_zero, List.set_cons_succ]
  refine wpAnyH_done (by kernel_rfl) ?_ _
  go_wp2_with fail
  go_ret
  exact ⟨rfl, BV.out.trans (kb2.mono BV.out.size)⟩

set_option maxRecDepth 100000 in
set_option maxHeartbeats 8000000 in
theorem widx15_any (v : Value) (L : List BK) (w : World) (hL : BuckAt w v L) (hF : BFit L) :
    Calls Tryz.prog 65 #[v, .func (.func 30) #[] #[]] w fun e w' => e = .returned (.int .i64 (-1)) ∧ Below w.heap.size w w' := by
  obtain ⟨s, cap, rfl, h1, h2, h3, h4⟩ := hL
  have HL := hide_ h4
  have HF := hide_ hF
  have hm : L.length ≤ 9223372036854775807 := by unfold maxLen at h2; omega
  clear h1 h2 h3 h4 hF
  go_enter Tryz.func65, Tryz.ntmps65
  go_wp2
  go_loopw [5, 8] (fun _ i wr => ∃ j : Nat, j ≤ L.length ∧ i = .int .i64 j ∧ Hid (Below w.heap.size w wr)) (fun _ i _ => L.length - (intOf i).toNat)
  case atStart => exact ⟨0, Nat.zero_le _, rfl, hide_ (Below.refl _ _)⟩
  case round =>
    obtain ⟨j, hj, rfl, KB⟩ := hrel
    by_cases hlt : j < L.length
    · have hlt' : (j : Int) < (L.length : Int) := by omega
      obtain ⟨⟨a1, b1, c1, M1⟩, hz1⟩ : ∃ z, L[j]? = some z := ⟨_, List.getElem?_eq_getElem hlt⟩
      obtain ⟨bq1, off1, u1, rfl, X0, X1, X2, X3, M1A⟩ := HL.out j _ hz1
      have X0 := cell_later KB.out X0
      have X1 := cell_later KB.out X1
      have X2 := cell_later KB.out X2
      have X3 := cell_later KB.out X3
      obtain ⟨su1, cu1, eu1, -⟩ := id M1A
      subst eu1
      have hf1 := HF.out _ (List.mem_of_getElem? hz1)
      have qc := hide_ (wclo15_any a1 b1 c1 su1 cu1 M1 M1.length wr rfl (M1A.later KB.out) hf1)
      clear hz1 M1A
      go_wp2_with (go_at_call 30; refine qc.out.mono ?_; rintro e w1 ⟨rfl, b1⟩)
      go_roundw
      case rel => exact ⟨j + 1, by omega, by go_num, hide_ (KB.out.trans (b1.mono KB.out.size))⟩
      case measure => simp [intOf]; omega
    · have hlt' : ¬ (j : Int) < (L.length : Int) := by omega
      go_wp2
      go_ret
      exact ⟨rfl, KB.out⟩

set_option maxRecDepth 100000 in
set_option maxHeartbeats 8000000 in
theorem wcon15_any (v : Value) (L : List BK) (w : World) (hL : BuckAt w v L) (hF : BFit L) :
    Calls Tryz.prog 29 #[v, .func (.func 30) #[] #[]] w fun e w' => e = .returned (.bool false) ∧ Below w.heap.size w w' := by
  have q := hide_ (widx15_any v L w hL hF)
  obtain ⟨s, cap, rfl, -⟩ := hL
  go_enter Tryz.func29, Tryz.ntmps29
  go_wp2_with (go_at_call 65; refine q.out.mono ?_; rintro e w1 ⟨rfl, b1⟩)
  go_ret
  exact ⟨rfl, b1⟩

set_option maxRecDepth 100000 in
set_option maxHeartbeats 8000000 in
theorem bucketEncodes_walk (v u : Value) (L K : List BK) (w : World) (hL : BuckAt w v L) (hF : BFit L) (hK : BuckAt w u K) :
    Calls Tryz.prog 5 #[v, u] w fun e w' => e = .returned (.bool true) ∧ Below w.heap.size w w' := by
  obtain ⟨B, er, hB⟩ := bencR_some L
  have p1 := hide_ (plainB_any v L 110 w hL)
  have p2 := hide_ (fun W (hW : Below w.heap.size w W) => plainB_any u K 110 W (hK.later hW))
  have q1 := hide_ (fun W (hW : Below w.heap.size w W) => be_all (hL.later hW) hF hB)
  have q2 := hide_ (fun W (hW : Below w.heap.size w W) => rbe_all (hL.later hW) hF hB)
  have q3 := fun W (hW : Below w.heap.size w W) => blsame_any v u L K W (hL.later hW) (hK.later hW)
  have q4 := fun W (hW : Below w.heap.size w W) => rblsame_any v u L K W (hL.later hW) (hK.later hW)
  have q5 := hide_ (fun W (hW : Below w.heap.size w W) => wcon15_any v L W (hL.later hW) hF)
  have ez : (sameBL L K == sameBL L K) = true := by simp
  have ee : (er == er) = true := by simp
  generalize sameBL L K = z at *
  have q3 := hide_ q3
  have q4 := hide_ q4
  obtain ⟨nn, hnn⟩ : ∃ nn, B.length = nn := ⟨_, rfl⟩
  have HNN := hide_ hnn
  obtain ⟨s, sc, rfl⟩ := buck_form hL
  obtain ⟨s2, sc2, rfl⟩ := buck_form hK
  clear hL hK hF hB hnn
  generalize L.length = n at *
  generalize K.length = m at *
  go_enter Tryz.func5, Tryz.ntmps5
  go_wp2_with (first
    | (go_at_call 23; first | (refine (p2.out _ k1.out).mono ?_; rintro e w2 ⟨hz2, b2⟩; obtain ⟨z2, rfl⟩ := hz2; have k2 := hide_ (k1.out.trans (b2.mono k1.out.size)); clear b2; cases z2) | (refine p1.out.mono ?_; rintro e w1 ⟨hz1, b1⟩; obtain ⟨z1, rfl⟩ := hz1; have k1 := hide_ b1; clear b1; cases z1))
    | (go_at_call 25; refine (q1.out _ k2.out).mono ?_; rintro e w3 ⟨r3, rfl, h3, b3⟩; obtain ⟨a3, c3, e3⟩ := own_sliceB h3; rw [HNN.out] at e3; subst e3; have k3 := hide_ (k2.out.trans (b3.mono k2.out.size)); have H3 := hide_ h3.bytes; clear h3 b3)
    | (go_at_call 26; refine (q2.out _ k3.out).mono ?_; rintro e w4 ⟨r4, rfl, h4, b4⟩; obtain ⟨a4, c4, e4⟩ := own_sliceB h4; rw [HNN.out] at e4; subst e4; have k4 := hide_ (k3.out.trans (b4.mono k3.out.size)); have H3 := hide_ (H3.out.later b4); have H4 := hide_ h4.bytes; clear h4 b4)
    | (go_at_call 27; refine (q3.out _ k4.out).mono ?_; rintro e w5 ⟨rfl, b5⟩; have k5 := hide_ (k4.out.trans (b5.mono k4.out.size)); have H3 := hide_ (H3.out.later b5); have H4 := hide_ (H4.out.later b5); clear b5)
    | (go_at_call 28; refine (q4.out _ k5.out).mono ?_; rintro e w6 ⟨rfl, b6⟩; have k6 := hide_ (k5.out.trans (b6.mono k5.out.size)); have qe := equal_any _ _ B B w6 (H3.out.later b6) (H4.out.later b6); rw [beq_self_eq_true] at qe; have qe := hide_ qe; clear b6)
    | (go_at_call 13; refine qe.out.mono ?_; rintro e w7 ⟨rfl, b7⟩; have k7 := hide_ (k6.out.trans (b7.mono k6.out.size)); clear b7)
    | (go_at_call 29; refine (q5.out _ k7.out).mono ?_; rintro e w8 ⟨rfl, b8⟩; have k8 := hide_ (k7.out.trans (b8.mono k7.out.size)); clear b8)
    | (go_at_call 24; refine (awake15_any _).mono ?_; rintro e w9 ⟨rfl, b9⟩))
  · go_ret
    exact ⟨rfl, k1.out.trans (b9.mono k1.out.size)⟩
  · go_ret
    exact ⟨rfl, k2.out.trans (b9.mono k2.out.size)⟩
  · go_ret
    exact ⟨rfl, k8.out.trans (b9.mono k8.out.size)⟩

end Go.Proofs.YthamnlgjehlndaaGreat
