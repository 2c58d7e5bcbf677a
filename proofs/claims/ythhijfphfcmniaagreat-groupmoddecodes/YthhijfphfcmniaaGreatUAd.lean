import Derived.Test.YthhijfphfcmniaaGreatKNd
import Derived.Test.YthhijfphfcmniaaGreatOzd
import Derived.Deep.RegionHeld3
import Derived.Deep.RegionWith
import Derived.Deep.MidRow
import Derived.Deep.Cut
import Derived.Laws.StructEq
import Derived.ChangeKeysEq
namespace Go.Proofs.YthhijfphfcmniaaGreat
open Go Go.RowKit
set_option linter.unusedVariables false
set_option linter.unusedSimpArgs false

set_option maxRecDepth 100000 in
set_option maxHeartbeats 8000000 in
theorem grefuse_any (k c : Int) (w : World) : Calls Tryz.prog 66 #[.int .i64 k, .int .i64 c] w fun e w' => e = .returned (.agg #[.bool true, .int .i64 k, .int .i64 c]) ∧ Below w.heap.size w w' := by
  go_enter Tryz.func66, Tryz.ntmps66
  go_wp2
  exact bodyPost_ret (v := .agg #[.bool true, .int .i64 k, .int .i64 c]) (by simp [results, Tryz.results66, go_sem]) rfl ⟨rfl, below1 _ _⟩

set_option maxRecDepth 100000 in
set_option maxHeartbeats 8000000 in
theorem gsizes_any (w : World) : Calls Tryz.prog 100 #[] w fun e w' => e = .returned (.agg #[.int .i64 2, .int .i64 1, .int .i64 1, .int .i64 4]) ∧ Below w.heap.size w w' := by
  go_enter Tryz.func100, Tryz.ntmps100
  go_wp2
  exact bodyPost_ret (v := .agg #[.int .i64 2, .int .i64 1, .int .i64 1, .int .i64 4]) (by simp [results, Tryz.results100, go_sem]) rfl ⟨rfl, below1 _ _⟩

set_option maxRecDepth 100000 in
set_option maxHeartbeats 8000000 in
theorem gnum_any (c k i o : Int) (su : Option Addr) (n cu : Nat) (w : World) : Calls Tryz.prog 63 #[.agg #[.int .i64 c, .int .i64 k, .int .i64 i, .slice su n cu, .int .i64 o]] w fun e w' => e = .returned (.agg #[.int .i64 c, .int .i64 k, .int .i64 o, .int .i64 i]) ∧ Below w.heap.size w w' := by
  go_enter Tryz.func63, Tryz.ntmps63
  go_wp2
  exact bodyPost_ret (v := .agg #[.int .i64 c, .int .i64 k, .int .i64 o, .int .i64 i]) (by simp [results, Tryz.results63, go_sem]) rfl ⟨rfl, by go_grown⟩

/-- Command, Kind: what a change may have -/
def cR (c : Int) : Bool := decide (0 ≤ c) && decide (c ≤ 2)
def kR (k : Int) : Bool := decide (0 ≤ k) && decide (k ≤ 3)
set_option maxRecDepth 100000 in
set_option maxHeartbeats 8000000 in
theorem gchk_c (c k i : Int) (su : Option Addr) (n cu : Nat) (w : World) (h : cR c = false) : Calls Tryz.prog 68 #[.agg #[.int .i64 c, .int .i64 k, .int .i64 i, .slice su n cu]] w fun e w' => e = .returned (.agg #[.bool true, .int .i64 6, .int .i64 11]) ∧ Below w.heap.size w w' := by
  have hc : c < 0 ∨ (¬ c < 0 ∧ 2 < c) := by
    unfold cR at h
    simp at h
    omega
  clear h
  rcases hc with h1 | ⟨h1, h2⟩
  all_goals
    have A0 := hide_ (AB.at1 w (.cells #[.int .i64 c, .int .i64 k, .int .i64 i, .slice su n cu] 50) 44 [.bool false, .int .i64 0, .int .i64 0])
    have B0 := hide_ (below2 w (.cells #[.int .i64 c, .int .i64 k, .int .i64 i, .slice su n cu] 50) (.cells #[.bool false, .int .i64 0, .int .i64 0] 44))
    go_enter Tryz.func68, Tryz.ntmps68
    go_wp2_with (go_at_call 66; refine (grefuse_any _ _ _).mono ?_; rintro e w1 ⟨rfl, b1⟩; have A1 := hide_ (A0.out.later b1); obtain ⟨f0, f1, f2, g0, g1, g2⟩ := A1.out.three; have k1 := hide_ (B0.out.trans (b1.mono B0.out.size)); clear b1)
    exact bodyPost_ret (v := .agg #[.bool true, .int .i64 6, .int .i64 11]) (by simp [results, Tryz.results68, go_sem, *]) rfl ⟨rfl, ((k1.out.setCell (p := ⟨w.heap.size + 1, 0, none⟩) (by simp) _).setCell (p := ⟨w.heap.size + 1, 1, none⟩) (by simp) _).setCell (p := ⟨w.heap.size + 1, 2, none⟩) (by simp) _⟩

set_option maxRecDepth 100000 in
set_option maxHeartbeats 8000000 in
theorem gchk_k (c k i : Int) (su : Option Addr) (n cu : Nat) (w : World) (hc : cR c = true) (h : kR k = false) : Calls Tryz.prog 68 #[.agg #[.int .i64 c, .int .i64 k, .int .i64 i, .slice su n cu]] w fun e w' => e = .returned (.agg #[.bool true, .int .i64 6, .int .i64 10]) ∧ Below w.heap.size w w' := by
  have h1 : ¬ c < 0 := by unfold cR at hc; simp at hc; omega
  have h2 : ¬ 2 < c := by unfold cR at hc; simp at hc; omega
  have hk : k < 0 ∨ (¬ k < 0 ∧ 3 < k) := by
    unfold kR at h
    simp at h
    omega
  clear h hc
  rcases hk with h3 | ⟨h3, h4⟩
  all_goals
    have A0 := hide_ (AB.at1 w (.cells #[.int .i64 c, .int .i64 k, .int .i64 i, .slice su n cu] 50) 44 [.bool false, .int .i64 0, .int .i64 0])
    have B0 := hide_ (below2 w (.cells #[.int .i64 c, .int .i64 k, .int .i64 i, .slice su n cu] 50) (.cells #[.bool false, .int .i64 0, .int .i64 0] 44))
    go_enter Tryz.func68, Tryz.ntmps68
    go_wp2_with (go_at_call 66; refine (grefuse_any _ _ _).mono ?_; rintro e w1 ⟨rfl, b1⟩; have A1 := hide_ (A0.out.later b1); obtain ⟨f0, f1, f2, g0, g1, g2⟩ := A1.out.three; have k1 := hide_ (B0.out.trans (b1.mono B0.out.size)); clear b1)
    exact bodyPost_ret (v := .agg #[.bool true, .int .i64 6, .int .i64 10]) (by simp [results, Tryz.results68, go_sem, *]) rfl ⟨rfl, ((k1.out.setCell (p := ⟨w.heap.size + 1, 0, none⟩) (by simp) _).setCell (p := ⟨w.heap.size + 1, 1, none⟩) (by simp) _).setCell (p := ⟨w.heap.size + 1, 2, none⟩) (by simp) _⟩

set_option maxRecDepth 100000 in
set_option maxHeartbeats 8000000 in
theorem gchk_ok (c k i : Int) (su : Option Addr) (n cu : Nat) (w : World) (hc : cR c = true) (h : kR k = true) : Calls Tryz.prog 68 #[.agg #[.int .i64 c, .int .i64 k, .int .i64 i, .slice su n cu]] w fun e w' => e = .returned (.agg #[.bool false, .int .i64 0, .int .i64 0]) ∧ Below w.heap.size w w' := by
  have h1 : ¬ c < 0 := by unfold cR at hc; simp at hc; omega
  have h2 : ¬ 2 < c := by unfold cR at hc; simp at hc; omega
  have h3 : ¬ k < 0 := by unfold kR at h; simp at h; omega
  have h4 : ¬ 3 < k := by unfold kR at h; simp at h; omega
  clear h hc
  all_goals
    have A0 := hide_ (AB.at1 w (.cells #[.int .i64 c, .int .i64 k, .int .i64 i, .slice su n cu] 50) 44 [.bool false, .int .i64 0, .int .i64 0])
    have B0 := hide_ (below2 w (.cells #[.int .i64 c, .int .i64 k, .int .i64 i, .slice su n cu] 50) (.cells #[.bool false, .int .i64 0, .int .i64 0] 44))
    go_enter Tryz.func68, Tryz.ntmps68
    go_wp2_with (go_at_call 66; refine (grefuse_any _ _ _).mono ?_; rintro e w1 ⟨rfl, b1⟩; have A1 := hide_ (A0.out.later b1); obtain ⟨f0, f1, f2, g0, g1, g2⟩ := A1.out.three; have k1 := hide_ (B0.out.trans (b1.mono B0.out.size)); clear b1)
    exact bodyPost_ret (v := .agg #[.bool false, .int .i64 0, .int .i64 0]) (by simp [results, Tryz.results68, go_sem, *]) rfl ⟨rfl, B0.out⟩

end Go.Proofs.YthhijfphfcmniaaGreat

namespace Go.Proofs.YthhijfphfcmniaaGreat
open Go Go.RowKit
set_option linter.unusedVariables false
set_option linter.unusedSimpArgs false

theorem gfld (x y z : Value) (w : World) : (Instr.field 44 (.agg #[x, y, z]) 0).run Tryz.prog w = .ok x w := by kernel_rfl
theorem gix0 (w : World) : (Instr.index 94 (.agg #[.int .i64 2, .int .i64 1, .int .i64 1, .int .i64 4]) (.int .i64 0)).run Tryz.prog w = .ok (.int .i64 2) w := by kernel_rfl
theorem gix1 (w : World) : (Instr.index 94 (.agg #[.int .i64 2, .int .i64 1, .int .i64 1, .int .i64 4]) (.int .i64 1)).run Tryz.prog w = .ok (.int .i64 1) w := by kernel_rfl
theorem gix2 (w : World) : (Instr.index 94 (.agg #[.int .i64 2, .int .i64 1, .int .i64 1, .int .i64 4]) (.int .i64 2)).run Tryz.prog w = .ok (.int .i64 1) w := by kernel_rfl
theorem gix3 (w : World) : (Instr.index 94 (.agg #[.int .i64 2, .int .i64 1, .int .i64 1, .int .i64 4]) (.int .i64 3)).run Tryz.prog w = .ok (.int .i64 4) w := by kernel_rfl
/-- may this change be -/
def gN (c k i : Int) : Bool := cR c && (kR k && rightB i 4)
def gB (L : List BK) : Bool := decide (L.length ≤ 100) && (L.all bkR && decide ((encK L).length ≤ 60000))
def gR (c k i : Int) (L : List BK) : Bool := gN c k i && gB L
def p1F (c : Int) : List Int := [] ++ spl c 2
def p2F (c k : Int) : List Int := p1F c ++ spl k 1
def p3F (c k : Int) : List Int := p2F c k ++ spl 0 1
def p4F (c k i : Int) : List Int := p3F c k ++ spl i 4
/-- its bytes -/
def gE (c k i : Int) (L : List BK) : List Int := p4F c k i ++ encK L
def preF (c k i : Int) : Nat → List Int
  | 0 => []
  | 1 => p1F c
  | 2 => p2F c k
  | 3 => p3F c k
  | _ => p4F c k i
theorem spl_lenG (n s : Int) : (spl n s).length = if s = 1 then 1 else if s = 2 then 2 else 4 := by
  by_cases h1 : s = 1
  · simp [spl, h1]
  · by_cases h2 : s = 2 <;> simp [spl, h1, h2]
theorem p4F_len (c k i : Int) : (p4F c k i).length = 8 := by unfold p4F p3F p2F p1F; simp [spl_lenG]
theorem gE_len (c k i : Int) (L : List BK) : (gE c k i L).length = 8 + (encK L).length := by unfold gE; rw [List.length_append, p4F_len]
theorem gB_ben {L : List BK} : bencR L (if gB L then encK L else []) (if gB L then 0 else 1) := by
  unfold gB bencR
  by_cases h1 : L.length ≤ 100 <;> by_cases h2 : L.all bkR = true <;> by_cases h3 : (encK L).length ≤ 60000 <;> simp [h1, h2, h3]
set_option maxRecDepth 100000 in
set_option maxHeartbeats 8000000 in
theorem gspell_yes (c k i : Int) (su : Option Addr) (n cu : Nat) (w : World) (B : List Int) (hBl : B.length ≤ 60000) (hc : cR c = true) (hk : kR k = true) (h : rightB i 4 = true) (qe : ∀ W, Below w.heap.size w W → Calls Tryz.prog 99 #[.slice su n cu] W fun e w' => ∃ r, e = .returned (.tuple #[r, .int .i64 0]) ∧ OwnB w' W.heap.size r B ∧ Below W.heap.size W w') :
    Calls Tryz.prog 60 #[.agg #[.int .i64 c, .int .i64 k, .int .i64 i, .slice su n cu]] w fun e w' => ∃ r, e = .returned (.tuple #[r, .bool true]) ∧ OwnB w' w.heap.size r (p4F c k i ++ B) ∧ Below w.heap.size w w' := by
  have r1 : rightB c 2 = true := by unfold cR at hc; simp [rightB, szB, lim] at hc ⊢; omega
  have r2 : rightB k 1 = true := by unfold kR at hk; simp [rightB, szB, lim] at hk ⊢; omega
  have r3 : rightB 0 1 = true := by decide
  have gf := fun x y z w => gfld x y z w
  have A0 := hide_ (AB.at0 w 50 [.int .i64 c, .int .i64 k, .int .i64 i, .slice su n cu])
  have B0 := hide_ (below1 w (.cells #[.int .i64 c, .int .i64 k, .int .i64 i, .slice su n cu] 50))
  obtain ⟨x0, x1, x2, x3, -⟩ := A0.out.k4
  have qc := hide_ (fun w => gchk_ok c k i su n cu w hc hk)
  have qe := hide_ qe
  have HR := hide_ (And.intro r1 (And.intro r2 (And.intro r3 h)))
  have HBl := hide_ hBl
  obtain ⟨i0, hi0, hz0, hz1, hz2⟩ := info_parts info5
  have HN : Hid (Tryz.prog.info? 5 = some i0 ∧ i0.zero = some (.int .u8 0) ∧ i0.size = 1 ∧ i0.bytes = 1) := ⟨hi0, hz0, hz1, hz2⟩
  clear hi0 hz0 hz1 hz2 hc hk r1 r2 r3 hBl
  go_enter Tryz.func60, Tryz.ntmps60
  go_wp2_with (first | (go_at_call 68; refine (qc.out _).mono ?_; rintro e w1 ⟨rfl, b1⟩; have k1 := hide_ (B0.out.trans (b1.mono B0.out.size)); have A1 := hide_ (A0.out.later b1); obtain ⟨y0, y1, y2, y3, -⟩ := A1.out.k4; clear b1) | (go_at_call 98; refine (right_any _ _ _).mono ?_; rintro e w9 ⟨rfl, rfl⟩) | (go_at_call 99; refine (qe.out _ k1.out).mono ?_; rintro e w2 ⟨r, rfl, hO, b2⟩; obtain ⟨s2, c2, rfl⟩ := own_sliceB hO; have HO := hide_ (hO.mono k1.out.size); have k2 := hide_ (k1.out.trans (b2.mono k1.out.size)); have A2 := hide_ (A1.out.later b2); obtain ⟨z0, z1, z2, z3, -⟩ := A2.out.k4; clear hO b2) | (go_at_call 63; refine (gnum_any c k i 0 su n cu _).mono ?_; rintro e w3 ⟨rfl, b3⟩; have k3 := hide_ (k2.out.trans (b3.mono k2.out.size)); have HO3 := hide_ (HO.out.later b3); clear b3) | (go_at_call 100; refine (gsizes_any _).mono ?_; rintro e w4 ⟨rfl, b4⟩; have j4 := (below1 w3 (.cells #[.int .i64 c, .int .i64 k, .int .i64 0, .int .i64 i] 94)).trans (b4.mono (by simp)); have N4 := hide_ ((AB.at0 w3 94 [.int .i64 c, .int .i64 k, .int .i64 0, .int .i64 i]).later b4); have k4 := hide_ (k3.out.trans (j4.mono k3.out.size)); have HO4 := hide_ (HO3.out.later j4); clear b4 j4))
  generalize w3.heap.size = g1 at *
  have hle : ∀ j, (preF c k i j).length ≤ 8 := fun j => by
    match j with
    | 0 => exact Nat.zero_le _
    | 1 => show (p1F c).length ≤ 8; simp [p1F, spl_lenG]
    | 2 => show (p2F c k).length ≤ 8; simp [p2F, p1F, spl_lenG]
    | 3 => show (p3F c k).length ≤ 8; simp [p3F, p2F, p1F, spl_lenG]
    | (j + 4) => show (p4F c k i).length ≤ 8; rw [p4F_len]; omega
  have HLE := hide_ hle
  clear hle
  go_loopw [6, 31] (fun b ix wr => ∃ (j : Nat) (jz : Int) (ba : Option Addr) (bc : Nat), j ≤ 4 ∧ ix = .int .i64 jz ∧ Hid (jz = (j : Int)) ∧ b = .slice ba (preF c k i j).length bc ∧ Hid (OwnB wr w.heap.size (.slice ba (preF c k i j).length bc) (preF c k i j)) ∧ Hid (AB wr g1 94 [.int .i64 c, .int .i64 k, .int .i64 0, .int .i64 i]) ∧ Hid (OwnB wr w.heap.size (.slice s2 B.length c2) B) ∧ Hid (Below w.heap.size w wr)) (fun _ ix _ => 4 - (intOf ix).toNat)
  case atStart => exact ⟨0, 0, none, 0, by omega, rfl, hide_ rfl, rfl, hide_ (own_nilB _ _), N4, HO4, k4⟩
  case round =>
    clear N4 HO4 k4
    obtain ⟨j, jz, ba, bc, hj, rfl, HJZ, rfl, HP, HA, HB2, KB⟩ := hrel
    obtain ⟨n0, n1, n2, n3, -⟩ := HA.out.k4
    have hcs : j = 0 ∨ j = 1 ∨ j = 2 ∨ j = 3 ∨ j = 4 := by omega
    rcases hcs with rfl | rfl | rfl | rfl | rfl
    · have gx := fun w => gix0 w
      have hz : jz = 0 := HJZ.out
      subst hz
      clear HJZ hj
      have q := hide_ (put_ownK (.slice ba (preF c k i 0).length bc) (preF c k i 0) (c) 2 wr HP.out.bytes (by have := HLE.out 0; omega) HR.out.1 (spl_isB _ _ HR.out.1))
      go_wp2_with (go_at_call 73; refine q.out.mono ?_; rintro e w5 ⟨r5, rfl, o5, b5⟩; obtain ⟨ba5, bc5, re5⟩ := own_sliceB o5; subst re5; have o5 := hide_ (o5.mono KB.out.size); have HA5 := hide_ (HA.out.later b5); have HB5 := hide_ (HB2.out.later b5); have KB5 := hide_ (KB.out.trans (b5.mono KB.out.size)); clear b5)
      go_roundw
      case rel => exact ⟨1, 1, ba5, bc5, by omega, by first | rfl | go_num, hide_ rfl, rfl, o5, HA5, HB5, KB5⟩
      case measure => simp [intOf]
    · have gx := fun w => gix1 w
      have hz : jz = 1 := HJZ.out
      subst hz
      clear HJZ hj
      have q := hide_ (put_ownK (.slice ba (preF c k i 1).length bc) (preF c k i 1) (k) 1 wr HP.out.bytes (by have := HLE.out 1; omega) HR.out.2.1 (spl_isB _ _ HR.out.2.1))
      go_wp2_with (go_at_call 73; refine q.out.mono ?_; rintro e w5 ⟨r5, rfl, o5, b5⟩; obtain ⟨ba5, bc5, re5⟩ := own_sliceB o5; subst re5; have o5 := hide_ (o5.mono KB.out.size); have HA5 := hide_ (HA.out.later b5); have HB5 := hide_ (HB2.out.later b5); have KB5 := hide_ (KB.out.trans (b5.mono KB.out.size)); clear b5)
      go_roundw
      case rel => exact ⟨2, 2, ba5, bc5, by omega, by first | rfl | go_num, hide_ rfl, rfl, o5, HA5, HB5, KB5⟩
      case measure => simp [intOf]
    · have gx := fun w => gix2 w
      have hz : jz = 2 := HJZ.out
      subst hz
      clear HJZ hj
      have q := hide_ (put_ownK (.slice ba (preF c k i 2).length bc) (preF c k i 2) (0) 1 wr HP.out.bytes (by have := HLE.out 2; omega) HR.out.2.2.1 (spl_isB _ _ HR.out.2.2.1))
      go_wp2_with (go_at_call 73; refine q.out.mono ?_; rintro e w5 ⟨r5, rfl, o5, b5⟩; obtain ⟨ba5, bc5, re5⟩ := own_sliceB o5; subst re5; have o5 := hide_ (o5.mono KB.out.size); have HA5 := hide_ (HA.out.later b5); have HB5 := hide_ (HB2.out.later b5); have KB5 := hide_ (KB.out.trans (b5.mono KB.out.size)); clear b5)
      go_roundw
      case rel => exact ⟨3, 3, ba5, bc5, by omega, by first | rfl | go_num, hide_ rfl, rfl, o5, HA5, HB5, KB5⟩
      case measure => simp [intOf]
    · have gx := fun w => gix3 w
      have hz : jz = 3 := HJZ.out
      subst hz
      clear HJZ hj
      have q := hide_ (put_ownK (.slice ba (preF c k i 3).length bc) (preF c k i 3) (i) 4 wr HP.out.bytes (by have := HLE.out 3; omega) HR.out.2.2.2 (spl_isB _ _ HR.out.2.2.2))
      go_wp2_with (go_at_call 73; refine q.out.mono ?_; rintro e w5 ⟨r5, rfl, o5, b5⟩; obtain ⟨ba5, bc5, re5⟩ := own_sliceB o5; subst re5; have o5 := hide_ (o5.mono KB.out.size); have HA5 := hide_ (HA.out.later b5); have HB5 := hide_ (HB2.out.later b5); have KB5 := hide_ (KB.out.trans (b5.mono KB.out.size)); clear b5)
      go_roundw
      case rel => exact ⟨4, 4, ba5, bc5, by omega, by first | rfl | go_num, hide_ rfl, rfl, o5, HA5, HB5, KB5⟩
      case measure => simp [intOf]
    · have hz : jz = 4 := HJZ.out
      subst hz
      clear HJZ hj
      have HP8 : Hid (OwnB wr w.heap.size (.slice ba 8 bc) (p4F c k i)) := hide_ (by have := HP.out; rw [show preF c k i 4 = p4F c k i from rfl, p4F_len] at this; exact this)
      have e8 : (preF c k i 4).length = 8 := p4F_len c k i
      rw [e8]
      clear HP e8
      go_wp2_with (at_builtin; refine wpList_append_ownB rfl (.tmp 42) (.tmp 43) 25 rfl w.heap.size 5 i0 Tryz.underlying25 HN.out.1 HN.out.2.1 HN.out.2.2.1 HN.out.2.2.2 (.slice ba 8 bc) 8 (u8s (p4F c k i)) (by simp [Act.eval, Act.put]) (by have := HP8.out.1; rw [p4F_len] at this; exact this) (.slice s2 B.length c2) B (by simp [Act.eval, Act.put]) HB2.out.bytes (by have := HBl.out; omega) KB.out.size ?_; intro v6 w6 own6 hg6; have K6 := hide_ (KB.out.trans (HP8.out.growB hg6 (Nat.le_refl _) KB.out.size)); have O6 : Hid (OwnB w6 w.heap.size v6 (p4F c k i ++ B)) := hide_ (HP8.out.grow HB2.out.2 (by rw [p4F_len]; exact own6)); clear own6 hg6)
      go_ret2
      exact ⟨_, by first | rfl | simp, O6.out, K6.out⟩

end Go.Proofs.YthhijfphfcmniaaGreat

namespace Go.Proofs.YthhijfphfcmniaaGreat
open Go Go.RowKit
set_option linter.unusedVariables false
set_option linter.unusedSimpArgs false

theorem gneq (a b c d a2 b2 c2 d2 : Int) (w : World) : (Op.equalIn 10000 94 (.agg #[.int .i64 a, .int .i64 b, .int .i64 c, .int .i64 d]) (.agg #[.int .i64 a2, .int .i64 b2, .int .i64 c2, .int .i64 d2])).run Tryz.prog w = .ok (decide (a = a2) && (decide (b = b2) && (decide (c = c2) && decide (d = d2)))) w := by
  obtain ⟨i0, hi0, hz0⟩ : ∃ i0, Tryz.prog.info? 3 = some i0 ∧ i0.size = 1 := by
    have h : (Tryz.prog.info? 3).map (fun i => i.size) = some 1 := by kernel_rfl
    obtain ⟨i0, h1, h2⟩ := Option.map_eq_some_iff.1 h
    exact ⟨i0, h1, h2⟩
  have hc : Tryz.prog.cellsOf 3 = 1 := by kernel_rfl
  have hp : ∀ (xs : Array Value) (o : Nat) (w : World), (part 3 xs o).run Tryz.prog w = (match xs[o]? with | some v => Result.ok v w | none => (stuck (α := Value) "part: no such cell").run Tryz.prog w) := fun xs o w => by
    simp [part, isAgg, run_underlying Tryz.underlying3 w]
    cases xs[o]? <;> simp
  rw [run_equalIn_array w 9999 _ _ Tryz.underlying94 hi0, hc]
  have hr : List.range 4 = [0, 1, 2, 3] := rfl
  rw [hr]
  by_cases h1 : a = a2
  · subst h1
    by_cases h2 : b = b2
    · subst h2
      by_cases h3 : c = c2
      · subst h3
        by_cases h4 : d = d2
        · subst h4
          simp [Op.eqItems, hp, run_equalIn_int _ _ _ _ _ _ _ Tryz.underlying3]
        · simp [Op.eqItems, hp, run_equalIn_int _ _ _ _ _ _ _ Tryz.underlying3, h4]
      · simp [Op.eqItems, hp, run_equalIn_int _ _ _ _ _ _ _ Tryz.underlying3, h3]
    · simp [Op.eqItems, hp, run_equalIn_int _ _ _ _ _ _ _ Tryz.underlying3, h2]
  · simp [Op.eqItems, hp, run_equalIn_int _ _ _ _ _ _ _ Tryz.underlying3, h1]
def sameG (c k i : Int) (L : List BK) (c2 k2 i2 : Int) (K : List BK) : Bool := (decide (c = c2) && (decide (k = k2) && (decide ((0 : Int) = 0) && decide (i = i2)))) && sameBL L K
theorem keepG8 {w0 wa wb : World} {p0 p1 p2 p3 p4 p5 p6 p7 : Addr} {x0 x1 x2 x3 x4 x5 x6 x7 : Value} (k : Below wa.heap.size wa wb) (h : wa.cell? p0 = some x0 ∧ wa.cell? p1 = some x1 ∧ wa.cell? p2 = some x2 ∧ wa.cell? p3 = some x3 ∧ wa.cell? p4 = some x4 ∧ wa.cell? p5 = some x5 ∧ wa.cell? p6 = some x6 ∧ wa.cell? p7 = some x7 ∧ Below w0.heap.size w0 wa) :
    wb.cell? p0 = some x0 ∧ wb.cell? p1 = some x1 ∧ wb.cell? p2 = some x2 ∧ wb.cell? p3 = some x3 ∧ wb.cell? p4 = some x4 ∧ wb.cell? p5 = some x5 ∧ wb.cell? p6 = some x6 ∧ wb.cell? p7 = some x7 ∧ Below w0.heap.size w0 wb :=
  ⟨cell_later k h.1, cell_later k h.2.1, cell_later k h.2.2.1, cell_later k h.2.2.2.1, cell_later k h.2.2.2.2.1, cell_later k h.2.2.2.2.2.1, cell_later k h.2.2.2.2.2.2.1, cell_later k h.2.2.2.2.2.2.2.1, h.2.2.2.2.2.2.2.2.trans (k.mono h.2.2.2.2.2.2.2.2.size)⟩
set_option maxRecDepth 100000 in
set_option maxHeartbeats 8000000 in
theorem gsame_any (c k i : Int) (su : Option Addr) (n cu : Nat) (L : List BK) (c2 k2 i2 : Int) (su2 : Option Addr) (n2 cu2 : Nat) (K : List BK) (w : World) (hL : BuckAt w (.slice su n cu) L) (hK : BuckAt w (.slice su2 n2 cu2) K) :
    Calls Tryz.prog 29 #[.agg #[.int .i64 c, .int .i64 k, .int .i64 i, .slice su n cu], .agg #[.int .i64 c2, .int .i64 k2, .int .i64 i2, .slice su2 n2 cu2]] w fun e w' => e = .returned (.bool (sameG c k i L c2 k2 i2 K)) ∧ Below w.heap.size w w' := by
  have q := hide_ (fun W (hW : Below w.heap.size w W) => blsame_any _ _ L K W (hL.later hW) (hK.later hW))
  have B0 := hide_ (below2 w (.cells #[.int .i64 c, .int .i64 k, .int .i64 i, .slice su n cu] 50) (.cells #[.int .i64 c2, .int .i64 k2, .int .i64 i2, .slice su2 n2 cu2] 50))
  obtain ⟨o0, o1, o2, o3, -⟩ := ((AB.at0 w 50 [.int .i64 c, .int .i64 k, .int .i64 i, .slice su n cu]).alloc (.cells #[.int .i64 c2, .int .i64 k2, .int .i64 i2, .slice su2 n2 cu2] 50)).k4
  obtain ⟨o4, o5, o6, o7, -⟩ := (AB.at1 w (.cells #[.int .i64 c, .int .i64 k, .int .i64 i, .slice su n cu] 50) 50 [.int .i64 c2, .int .i64 k2, .int .i64 i2, .slice su2 n2 cu2]).k4
  have hq := fun w => gneq c k 0 i c2 k2 0 i2 w
  unfold sameG
  generalize sameBL L K = z at *
  generalize (decide (c = c2) && (decide (k = k2) && (decide ((0 : Int) = 0) && decide (i = i2)))) = y at *
  clear hL hK
  cases y
  · skip
    go_enter Tryz.func29, Tryz.ntmps29
    go_wp2_with fail
    refine wp_region_held_drew (S := (fun w' => w'.cell? ⟨w.heap.size, 0, none⟩ = some (.int .i64 c) ∧ w'.cell? ⟨w.heap.size, 1, none⟩ = some (.int .i64 k) ∧ w'.cell? ⟨w.heap.size, 2, none⟩ = some (.int .i64 i) ∧ w'.cell? ⟨w.heap.size, 3, none⟩ = some (.slice su n cu) ∧ w'.cell? ⟨w.heap.size + 1, 0, none⟩ = some (.int .i64 c2) ∧ w'.cell? ⟨w.heap.size + 1, 1, none⟩ = some (.int .i64 k2) ∧ w'.cell? ⟨w.heap.size + 1, 2, none⟩ = some (.int .i64 i2) ∧ w'.cell? ⟨w.heap.size + 1, 3, none⟩ = some (.slice su2 n2 cu2) ∧ Below w.heap.size w w')) (by kernel_rfl) (⟨o0, o1, o2, o3, o4, o5, o6, o7, B0.out.drew⟩) (fun hHeld => ?_)
    refine takeR (i := 0) (v := ?_) rfl (by kernel_rfl) (by kernel_rfl) (by kernel_rfl) (some 5) rfl (Or.inl ⟨by rfl, ?_⟩) (fun _ _ _ h => h) (by assumption) ?_
    rotate_left
    · intro w hSw; (try dsimp only at hSw); go_simp; (try with_reducible rfl)
    simp only [Act.put, List.setIfInBounds_toArray, List.set_cons_zero, List.set_cons_succ]
    refine takeR (i := 1) (v := ?_) rfl (by kernel_rfl) (by kernel_rfl) (by kernel_rfl) (some 6) rfl (Or.inl ⟨by rfl, ?_⟩) (fun _ _ _ h => h) (by assumption) ?_
    rotate_left
    · intro w hSw; (try dsimp only at hSw); go_simp; (try with_reducible rfl)
    simp only [Act.put, List.setIfInBounds_toArray, List.set_cons_zero, List.set_cons_succ]
    refine takeR (i := 3) (v := ?_) rfl (by kernel_rfl) (by kernel_rfl) (by kernel_rfl) (some 8) rfl (Or.inl ⟨by rfl, ?_⟩) (fun _ _ _ h => h) (by assumption) ?_
    rotate_left
    · intro w hSw; (try dsimp only at hSw); go_simp; (try with_reducible rfl)
    simp only [Act.put, List.setIfInBounds_toArray, List.set_cons_zero, List.set_cons_succ]
    refine takeR (i := 4) (v := ?_) rfl (by kernel_rfl) (by kernel_rfl) (by kernel_rfl) (some 9) rfl (Or.inl ⟨by rfl, ?_⟩) (fun _ _ _ h => h) (by assumption) ?_
    rotate_left
    · intro w hSw; (try dsimp only at hSw); go_simp; (try with_reducible rfl)
    simp only [Act.put, List.setIfInBounds_toArray, List.set_cons_zero, List.set_cons_succ]
    refine wpAnyH_ready (rs := [2]) (by kernel_rfl) (by simp) ?_
    refine AllReadyH.cons rfl (fun K hK => ?_) (AllReadyH.nil)
    go_simp
    refine (gnum_any _ _ _ 0 _ _ _ _).mono ?_
    rintro e w4 ⟨rfl, b4⟩
    refine hK.out _ _ (keepG8 b4 hHeld) (fun hHeld => ?_)
    clear hK K
    try simp only [Act.put, List.setIfInBounds_toArray, List.set_cons_zero, List.set_cons_succ]
    refine wpAnyH_ready (rs := [5]) (by kernel_rfl) (by simp) ?_
    refine AllReadyH.cons rfl (fun K hK => ?_) (AllReadyH.nil)
    go_simp
    refine (gnum_any _ _ _ 0 _ _ _ _).mono ?_
    rintro e w5 ⟨rfl, b4⟩
    refine hK.out _ _ (keepG8 b4 hHeld) (fun hHeld => ?_)
    clear hK K
    try simp only [Act.put, List.setIfInBounds_toArray, List.set_cons_zero, List.set_cons_succ]
    refine takeR (i := 6) (v := ?_) rfl (by kernel_rfl) (by kernel_rfl) (by kernel_rfl) (some 11) rfl (Or.inl ⟨by rfl, ?_⟩) (fun _ _ _ h => h) (by assumption) ?_
    rotate_left
    · intro w hSw; (try dsimp only at hSw); go_simp; (try with_reducible rfl)
    simp only [Act.put, List.setIfInBounds_toArray, List.set_cons_zero, List.set_cons_succ]
    refine takeR (i := 7) (v := ?_) rfl (by kernel_rfl) (by kernel_rfl) (by kernel_rfl) (some 12) rfl (Or.inl ⟨by rfl, ?_⟩) (fun _ _ _ h => h) (by assumption) ?_
    rotate_left
    · intro w hSw; (try dsimp only at hSw); go_simp; (try with_reducible rfl)
    simp only [Act.put, List.setIfInBounds_toArray, List.set_cons_zero, List.set_cons_succ]
    refine takeR (i := 8) (v := undef) rfl (by kernel_rfl) (by kernel_rfl) (by kernel_rfl) (some 13) rfl (Or.inr ⟨by rfl, rfl⟩) (fun _ _ _ h => h) (by assumption) ?_
    simp only [Act.put, List.setIfInBounds_toArray, List.set_cons_zero, List.set_cons_succ]
    refine takeR (i := 9) (v := undef) rfl (by kernel_rfl) (by kernel_rfl) (by kernel_rfl) (some 14) rfl (Or.inr ⟨by rfl, rfl⟩) (fun _ _ _ h => h) (by assumption) ?_
    simp only [Act.put, List.setIfInBounds_toArray, List.set_cons_zero, List.set_cons_succ]
    refine takeR (i := 10) (v := undef) rfl (by kernel_rfl) (by kernel_rfl) (by kernel_rfl) (some 15) rfl (Or.inr ⟨by rfl, rfl⟩) (fun _ _ _ h => h) (by assumption) ?_
    simp only [Act.put, List.setIfInBounds_toArray, List.set_cons_zero, List.set_cons_succ]
    refine takeR (i := 11) (v := undef) rfl (by kernel_rfl) (by kernel_rfl) (by kernel_rfl) (some 16) rfl (Or.inr ⟨by rfl, rfl⟩) (fun _ _ _ h => h) (by assumption) ?_
    simp only [Act.put, List.setIfInBounds_toArray, List.set_cons_zero, List.set_cons_succ]
    refine takeR (i := 12) (v := undef) rfl (by kernel_rfl) (by kernel_rfl) (by kernel_rfl) (some 17) rfl (Or.inr ⟨by rfl, rfl⟩) (fun _ _ _ h => h) (by assumption) ?_
    simp only [Act.put, List.setIfInBounds_toArray, List.set_cons_zero, List.set_cons_succ]
    refine takeR (i := 13) (v := ?_) rfl (by kernel_rfl) (by kernel_rfl) (by kernel_rfl) (some 18) rfl (Or.inl ⟨by rfl, ?_⟩) (fun _ _ _ h => h) (by assumption) ?_
    rotate_left
    · intro w hSw; (try dsimp only at hSw); go_simp; (try with_reducible rfl)
    simp only [Act.put, List.setIfInBounds_toArray, List.set_cons_zero, List.set_cons_succ]
    refine takeR (i := 14) (v := ?_) rfl (by kernel_rfl) (by kernel_rfl) (by kernel_rfl) (some 4) rfl (Or.inl ⟨by rfl, ?_⟩) (fun _ _ _ h => h) (by assumption) ?_
    rotate_left
    · intro w hSw; (try dsimp only at hSw); go_simp; (try with_reducible rfl)
    simp only [Act.put, List.setIfInBounds_toArray, List.set_cons_zero, List.set_cons_succ]
    refine wpAnyH_done (by kernel_rfl) ?_ _
    have bel := hHeld.2.2.2.2.2.2.2.2
    clear hHeld
    go_wp2_with fail
    go_ret
    exact ⟨by first | rfl | simp, bel⟩
  · skip
    go_enter Tryz.func29, Tryz.ntmps29
    go_wp2_with fail
    refine wp_region_held_drew (S := (fun w' => w'.cell? ⟨w.heap.size, 0, none⟩ = some (.int .i64 c) ∧ w'.cell? ⟨w.heap.size, 1, none⟩ = some (.int .i64 k) ∧ w'.cell? ⟨w.heap.size, 2, none⟩ = some (.int .i64 i) ∧ w'.cell? ⟨w.heap.size, 3, none⟩ = some (.slice su n cu) ∧ w'.cell? ⟨w.heap.size + 1, 0, none⟩ = some (.int .i64 c2) ∧ w'.cell? ⟨w.heap.size + 1, 1, none⟩ = some (.int .i64 k2) ∧ w'.cell? ⟨w.heap.size + 1, 2, none⟩ = some (.int .i64 i2) ∧ w'.cell? ⟨w.heap.size + 1, 3, none⟩ = some (.slice su2 n2 cu2) ∧ Below w.heap.size w w')) (by kernel_rfl) (⟨o0, o1, o2, o3, o4, o5, o6, o7, B0.out.drew⟩) (fun hHeld => ?_)
    refine takeR (i := 0) (v := ?_) rfl (by kernel_rfl) (by kernel_rfl) (by kernel_rfl) (some 5) rfl (Or.inl ⟨by rfl, ?_⟩) (fun _ _ _ h => h) (by assumption) ?_
    rotate_left
    · intro w hSw; (try dsimp only at hSw); go_simp; (try with_reducible rfl)
    simp only [Act.put, List.setIfInBounds_toArray, List.set_cons_zero, List.set_cons_succ]
    refine takeR (i := 1) (v := ?_) rfl (by kernel_rfl) (by kernel_rfl) (by kernel_rfl) (some 6) rfl (Or.inl ⟨by rfl, ?_⟩) (fun _ _ _ h => h) (by assumption) ?_
    rotate_left
    · intro w hSw; (try dsimp only at hSw); go_simp; (try with_reducible rfl)
    simp only [Act.put, List.setIfInBounds_toArray, List.set_cons_zero, List.set_cons_succ]
    refine takeR (i := 3) (v := ?_) rfl (by kernel_rfl) (by kernel_rfl) (by kernel_rfl) (some 8) rfl (Or.inl ⟨by rfl, ?_⟩) (fun _ _ _ h => h) (by assumption) ?_
    rotate_left
    · intro w hSw; (try dsimp only at hSw); go_simp; (try with_reducible rfl)
    simp only [Act.put, List.setIfInBounds_toArray, List.set_cons_zero, List.set_cons_succ]
    refine takeR (i := 4) (v := ?_) rfl (by kernel_rfl) (by kernel_rfl) (by kernel_rfl) (some 9) rfl (Or.inl ⟨by rfl, ?_⟩) (fun _ _ _ h => h) (by assumption) ?_
    rotate_left
    · intro w hSw; (try dsimp only at hSw); go_simp; (try with_reducible rfl)
    simp only [Act.put, List.setIfInBounds_toArray, List.set_cons_zero, List.set_cons_succ]
    refine wpAnyH_ready (rs := [2]) (by kernel_rfl) (by simp) ?_
    refine AllReadyH.cons rfl (fun K hK => ?_) (AllReadyH.nil)
    go_simp
    refine (gnum_any _ _ _ 0 _ _ _ _).mono ?_
    rintro e w4 ⟨rfl, b4⟩
    refine hK.out _ _ (keepG8 b4 hHeld) (fun hHeld => ?_)
    clear hK K
    try simp only [Act.put, List.setIfInBounds_toArray, List.set_cons_zero, List.set_cons_succ]
    refine wpAnyH_ready (rs := [5]) (by kernel_rfl) (by simp) ?_
    refine AllReadyH.cons rfl (fun K hK => ?_) (AllReadyH.nil)
    go_simp
    refine (gnum_any _ _ _ 0 _ _ _ _).mono ?_
    rintro e w5 ⟨rfl, b4⟩
    refine hK.out _ _ (keepG8 b4 hHeld) (fun hHeld => ?_)
    clear hK K
    try simp only [Act.put, List.setIfInBounds_toArray, List.set_cons_zero, List.set_cons_succ]
    refine takeR (i := 6) (v := ?_) rfl (by kernel_rfl) (by kernel_rfl) (by kernel_rfl) (some 11) rfl (Or.inl ⟨by rfl, ?_⟩) (fun _ _ _ h => h) (by assumption) ?_
    rotate_left
    · intro w hSw; (try dsimp only at hSw); go_simp; (try with_reducible rfl)
    simp only [Act.put, List.setIfInBounds_toArray, List.set_cons_zero, List.set_cons_succ]
    refine takeR (i := 7) (v := ?_) rfl (by kernel_rfl) (by kernel_rfl) (by kernel_rfl) (some 12) rfl (Or.inl ⟨by rfl, ?_⟩) (fun _ _ _ h => h) (by assumption) ?_
    rotate_left
    · intro w hSw; (try dsimp only at hSw); go_simp; (try with_reducible rfl)
    simp only [Act.put, List.setIfInBounds_toArray, List.set_cons_zero, List.set_cons_succ]
    refine takeR (i := 8) (v := ?_) rfl (by kernel_rfl) (by kernel_rfl) (by kernel_rfl) (some 13) rfl (Or.inl ⟨by rfl, ?_⟩) (fun _ _ _ h => h) (by assumption) ?_
    rotate_left
    · intro w hSw; (try dsimp only at hSw); go_simp; (try with_reducible rfl)
    simp only [Act.put, List.setIfInBounds_toArray, List.set_cons_zero, List.set_cons_succ]
    refine takeR (i := 9) (v := ?_) rfl (by kernel_rfl) (by kernel_rfl) (by kernel_rfl) (some 14) rfl (Or.inl ⟨by rfl, ?_⟩) (fun _ _ _ h => h) (by assumption) ?_
    rotate_left
    · intro w hSw; (try dsimp only at hSw); go_simp; (try with_reducible rfl)
    simp only [Act.put, List.setIfInBounds_toArray, List.set_cons_zero, List.set_cons_succ]
    refine takeR (i := 10) (v := ?_) rfl (by kernel_rfl) (by kernel_rfl) (by kernel_rfl) (some 15) rfl (Or.inl ⟨by rfl, ?_⟩) (fun _ _ _ h => h) (by assumption) ?_
    rotate_left
    · intro w hSw; (try dsimp only at hSw); go_simp; (try with_reducible rfl)
    simp only [Act.put, List.setIfInBounds_toArray, List.set_cons_zero, List.set_cons_succ]
    refine takeR (i := 11) (v := ?_) rfl (by kernel_rfl) (by kernel_rfl) (by kernel_rfl) (some 16) rfl (Or.inl ⟨by rfl, ?_⟩) (fun _ _ _ h => h) (by assumption) ?_
    rotate_left
    · intro w hSw; (try dsimp only at hSw); go_simp; (try with_reducible rfl)
    simp only [Act.put, List.setIfInBounds_toArray, List.set_cons_zero, List.set_cons_succ]
    refine wpAnyH_ready (rs := [12]) (by kernel_rfl) (by simp) ?_
    refine AllReadyH.cons rfl (fun K hK => ?_) (AllReadyH.nil)
    go_simp
    refine (q.out _ hHeld.2.2.2.2.2.2.2.2).mono ?_
    rintro e w9 ⟨rfl, b4⟩
    refine hK.out _ _ (keepG8 b4 hHeld) (fun hHeld => ?_)
    clear hK K
    try simp only [Act.put, List.setIfInBounds_toArray, List.set_cons_zero, List.set_cons_succ]
    refine takeR (i := 13) (v := ?_) rfl (by kernel_rfl) (by kernel_rfl) (by kernel_rfl) (some 18) rfl (Or.inl ⟨by rfl, ?_⟩) (fun _ _ _ h => h) (by assumption) ?_
    rotate_left
    · intro w hSw; (try dsimp only at hSw); go_simp; (try with_reducible rfl)
    simp only [Act.put, List.setIfInBounds_toArray, List.set_cons_zero, List.set_cons_succ]
    refine takeR (i := 14) (v := ?_) rfl (by kernel_rfl) (by kernel_rfl) (by kernel_rfl) (some 4) rfl (Or.inl ⟨by rfl, ?_⟩) (fun _ _ _ h => h) (by assumption) ?_
    rotate_left
    · intro w hSw; (try dsimp only at hSw); go_simp; (try with_reducible rfl)
    simp only [Act.put, List.setIfInBounds_toArray, List.set_cons_zero, List.set_cons_succ]
    refine wpAnyH_done (by kernel_rfl) ?_ _
    have bel := hHeld.2.2.2.2.2.2.2.2
    clear hHeld
    go_wp2_with fail
    go_ret
    exact ⟨by first | rfl | simp, bel⟩

end Go.Proofs.YthhijfphfcmniaaGreat

namespace Go.Proofs.YthhijfphfcmniaaGreat
open Go Go.RowKit
set_option linter.unusedVariables false
set_option linter.unusedSimpArgs false

theorem gben {v : Value} {L : List BK} {w : World} (hL : BuckAt w v L) (hF : BFit L) (z : Bool) (hz : gB L = z) : ∀ W, Below w.heap.size w W → Calls Tryz.prog 99 #[v] W fun e w' => ∃ r, e = .returned (.tuple #[r, .int .i64 (if z then 0 else 1)]) ∧ OwnB w' W.heap.size r (if z then encK L else []) ∧ Below W.heap.size W w' := fun W hW => by
  subst hz
  have := be_all (hL.later hW) hF (gB_ben (L := L))
  exact this
theorem gR_parts {c k i : Int} {L : List BK} (h : gR c k i L = true) : cR c = true ∧ kR k = true ∧ rightB i 4 = true ∧ gB L = true := by
  simpa [gR, gN, and_assoc] using h
theorem gB_parts {L : List BK} (h : gB L = true) : L.length ≤ 100 ∧ L.all bkR = true ∧ (encK L).length ≤ 60000 := by
  unfold gB at h
  simp only [Bool.and_eq_true, decide_eq_true_eq] at h
  exact h
theorem gspell_T (c k i : Int) (su : Option Addr) (n cu : Nat) (L : List BK) (w : World) (hL : BuckAt w (.slice su n cu) L) (hF : BFit L) (h : gR c k i L = true) :
    Calls Tryz.prog 60 #[.agg #[.int .i64 c, .int .i64 k, .int .i64 i, .slice su n cu]] w fun e w' => ∃ r, e = .returned (.tuple #[r, .bool true]) ∧ OwnB w' w.heap.size r (gE c k i L) ∧ Below w.heap.size w w' := by
  obtain ⟨h1, h2, h3, h4⟩ := gR_parts h
  exact gspell_yes c k i su n cu w (encK L) (gB_parts h4).2.2 h1 h2 h3 (gben hL hF true h4)

set_option maxRecDepth 100000 in
set_option maxHeartbeats 8000000 in
theorem genc_yes (c k i : Int) (su : Option Addr) (n cu : Nat) (L : List BK) (w : World) (hL : BuckAt w (.slice su n cu) L) (hF : BFit L) (h : gR c k i L = true) :
    Calls Tryz.prog 25 #[.agg #[.int .i64 c, .int .i64 k, .int .i64 i, .slice su n cu]] w fun e w' => (∃ r, e = .returned (.tuple #[r, .int .i64 0]) ∧ OwnB w' w.heap.size r (gE c k i L)) ∧ Below w.heap.size w w' := by
  have q := hide_ (fun W (hW : Below w.heap.size w W) => gspell_T c k i su n cu L W (hL.later hW) hF h)
  have A0 := hide_ (AB.at0 w 50 [.int .i64 c, .int .i64 k, .int .i64 i, .slice su n cu])
  have B0 := hide_ (below1 w (.cells #[.int .i64 c, .int .i64 k, .int .i64 i, .slice su n cu] 50))
  obtain ⟨x0, x1, x2, x3, -⟩ := A0.out.k4
  clear hL hF h
  go_enter Tryz.func25, Tryz.ntmps25
  go_wp2_with (go_at_call 60; refine (q.out _ B0.out).mono ?_; rintro e w1 ⟨r, rfl, o1, b1⟩; obtain ⟨s2, c2, rfl⟩ := own_sliceB o1; have o1 := hide_ o1)
  go_ret2
  exact ⟨⟨_, by first | rfl | simp, o1.out.mono B0.out.size⟩, B0.out.trans (b1.mono B0.out.size)⟩

set_option maxRecDepth 100000 in
set_option maxHeartbeats 8000000 in
theorem gright_yes (c k i : Int) (su : Option Addr) (n cu : Nat) (L : List BK) (w : World) (hL : BuckAt w (.slice su n cu) L) (hF : BFit L) (h : gR c k i L = true) :
    Calls Tryz.prog 27 #[.agg #[.int .i64 c, .int .i64 k, .int .i64 i, .slice su n cu]] w fun e w' => e = .returned (.bool true) ∧ Below w.heap.size w w' := by
  have q := hide_ (fun W (hW : Below w.heap.size w W) => gspell_T c k i su n cu L W (hL.later hW) hF h)
  have A0 := hide_ (AB.at0 w 50 [.int .i64 c, .int .i64 k, .int .i64 i, .slice su n cu])
  have B0 := hide_ (below1 w (.cells #[.int .i64 c, .int .i64 k, .int .i64 i, .slice su n cu] 50))
  obtain ⟨x0, x1, x2, x3, -⟩ := A0.out.k4
  clear hL hF h
  go_enter Tryz.func27, Tryz.ntmps27
  go_wp2_with (go_at_call 60; refine (q.out _ B0.out).mono ?_; rintro e w1 ⟨r, rfl, o1, b1⟩; obtain ⟨s2, c2, rfl⟩ := own_sliceB o1; have o1 := hide_ o1)
  go_ret
  exact ⟨rfl, B0.out.trans (b1.mono B0.out.size)⟩

end Go.Proofs.YthhijfphfcmniaaGreat

namespace Go.Proofs.YthhijfphfcmniaaGreat
open Go Go.RowKit
set_option linter.unusedVariables false
set_option linter.unusedSimpArgs false

theorem nget1 (v : Value) (l : List Int) (i : Nat) (w : World) (hB : Bytes w v l) (hi : i < l.length) (h2 : i ≤ 100000) :
    Calls Tryz.prog 89 #[v, .int .i64 (i : Int), .int .i64 1] w fun e w' => ∃ er, e = .returned (.tuple #[.int .i64 (l.getD i 0), .int .i64 er]) ∧ Below w.heap.size w w' := by
  obtain ⟨ao, cap, rfl, h1, h2, h3, h4, h5⟩ := hB
  have hB : Bytes w (.slice ao l.length cap) l := ⟨ao, cap, rfl, h1, h2, h3, h4, h5⟩
  obtain ⟨-, -, -, hat⟩ := Bytes.at hB
  obtain ⟨b, off, rfl, c0⟩ := hat i _ (getD_some hi)
  exact (get_ok1 b off l.length cap i (l.getD i 0) w (isB_getD h3 i) (by omega) h1 h2 c0).mono fun e w' h => ⟨0, h.1, h.2⟩
def cellsF (x0 x1 x2 x3 x4 : Value) (l : List Int) : Nat → List Value
  | 0 => [x0, x1, x2, x3, x4]
  | 1 => [.int .i64 (be2 l 0), x1, x2, x3, x4]
  | 2 => [.int .i64 (be2 l 0), .int .i64 (l.getD 2 0), x2, x3, x4]
  | 3 => [.int .i64 (be2 l 0), .int .i64 (l.getD 2 0), x2, x3, .int .i64 (l.getD 3 0)]
  | _ => [.int .i64 (be2 l 0), .int .i64 (l.getD 2 0), .int .i64 (be4 l 4), x3, .int .i64 (l.getD 3 0)]
theorem AB.k5 {w : World} {g : Nat} {ty : TypeId} {a b c d e : Value} (h : AB w g ty [a, b, c, d, e]) : w.cell? ⟨g, 0, none⟩ = some a ∧ w.cell? ⟨g, 1, none⟩ = some b ∧ w.cell? ⟨g, 2, none⟩ = some c ∧ w.cell? ⟨g, 3, none⟩ = some d ∧ w.cell? ⟨g, 4, none⟩ = some e ∧ w.frozen? ⟨g, 0, none⟩ = false ∧ w.frozen? ⟨g, 1, none⟩ = false ∧ w.frozen? ⟨g, 2, none⟩ = false ∧ w.frozen? ⟨g, 3, none⟩ = false ∧ w.frozen? ⟨g, 4, none⟩ = false :=
  ⟨(h.cell (j := 0) rfl).1, (h.cell (j := 1) rfl).1, (h.cell (j := 2) rfl).1, (h.cell (j := 3) rfl).1, (h.cell (j := 4) rfl).1, (h.cell (j := 0) rfl).2, (h.cell (j := 1) rfl).2, (h.cell (j := 2) rfl).2, (h.cell (j := 3) rfl).2, (h.cell (j := 4) rfl).2⟩
set_option maxRecDepth 100000 in
set_option maxHeartbeats 8000000 in
theorem gread_any (v : Value) (l : List Int) (g fb : Nat) (x0 x1 x2 x3 x4 : Value) (w0 w : World) (hB : Bytes w0 v l) (h8 : 8 ≤ l.length) (hb : Below w0.heap.size w0 w) (hg : w0.heap.size ≤ g) (hne : fb ≠ g) (hA : AB w g 96 [x0, x1, x2, x3, x4]) (hF : AB w fb 101 [.pointer (some ⟨g, 0, none⟩), .pointer (some ⟨g, 1, none⟩), .pointer (some ⟨g, 4, none⟩), .pointer (some ⟨g, 2, none⟩)]) :
    Calls Tryz.prog 67 #[v, .slice (some ⟨fb, 0, none⟩) 4 4] w fun e w' => e = .returned (.tuple #[]) ∧ AB w' g 96 [.int .i64 (be2 l 0), .int .i64 (l.getD 2 0), .int .i64 (be4 l 4), x3, .int .i64 (l.getD 3 0)] ∧ Below w0.heap.size w0 w' := by
  obtain ⟨av, cv, rfl⟩ := hB.short
  generalize hv : Value.slice av l.length cv = v at *
  have HB0 := hide_ hB
  have H8 := hide_ h8
  have hgw := hA.lt
  have K0 := hide_ hb
  have A0 := hide_ hA
  have F0 := hide_ hF
  clear hB h8 hb hA hF
  go_enter Tryz.func67, Tryz.ntmps67
  go_wp2_with (go_at_call 100; refine (gsizes_any _).mono ?_; rintro e w1 ⟨rfl, b1⟩; have hgw1 := b1.size; have K1 := hide_ (K0.out.trans ((b1.trans ((below1 w1 (.cells #[.int .i64 2, .int .i64 1, .int .i64 1, .int .i64 4] 94)).mono b1.size)).mono K0.out.size)); have j1 := b1.trans ((below1 w1 (.cells #[.int .i64 2, .int .i64 1, .int .i64 1, .int .i64 4] 94)).mono b1.size); have A1 := hide_ (A0.out.later j1); have F1 := hide_ (F0.out.later j1); have N1 := hide_ (AB.at0 w1 94 [.int .i64 2, .int .i64 1, .int .i64 1, .int .i64 4]); clear b1 j1)
  have hg1 : w1.heap.size ≠ g := by omega
  generalize w1.heap.size = g1 at *
  go_loopw [5, 11] (fun at_ ix wr => ∃ (j : Nat) (jz az : Int), j ≤ 4 ∧ ix = .int .i64 jz ∧ Hid (jz = (j : Int)) ∧ at_ = .int .i64 az ∧ Hid (az = ((match j with | 0 => 0 | 1 => 2 | 2 => 3 | 3 => 4 | _ => 8 : Nat) : Int)) ∧ Hid (AB wr g 96 (cellsF x0 x1 x2 x3 x4 l j)) ∧ Hid (AB wr fb 101 [.pointer (some ⟨g, 0, none⟩), .pointer (some ⟨g, 1, none⟩), .pointer (some ⟨g, 4, none⟩), .pointer (some ⟨g, 2, none⟩)]) ∧ Hid (AB wr g1 94 [.int .i64 2, .int .i64 1, .int .i64 1, .int .i64 4]) ∧ Hid (Below w0.heap.size w0 wr)) (fun _ ix _ => 4 - (intOf ix).toNat)
  case atStart => exact ⟨0, 0, 0, by omega, rfl, hide_ rfl, rfl, hide_ rfl, A1, F1, N1, K1⟩
  case round =>
    clear A1 F1 N1 K1 A0 F0 K0
    obtain ⟨j, jz, az, hj, rfl, HJZ, rfl, HAZ, HA, HF, HN, KB⟩ := hrel
    obtain ⟨n0, n1, n2, n3, -⟩ := HN.out.k4
    obtain ⟨y0, y1, y2, y3, -⟩ := HF.out.k4
    have hcs : j = 0 ∨ j = 1 ∨ j = 2 ∨ j = 3 ∨ j = 4 := by omega
    rcases hcs with rfl | rfl | rfl | rfl | rfl
    · have hz : jz = 0 := HJZ.out
      have ha : az = 0 := HAZ.out
      subst hz
      subst ha
      clear HJZ HAZ hj
      have q : Hid (Calls Tryz.prog 89 #[v, .int .i64 0, .int .i64 2] wr fun e w' => ∃ er, e = .returned (.tuple #[.int .i64 (be2 l 0), .int .i64 er]) ∧ Below wr.heap.size wr w') := hide_ (by have := nget2 v l 0 wr (HB0.out.later KB.out) (by omega); simpa using this)
      obtain ⟨-, -, -, -, -, f0, f1, f2, f3, f4⟩ := (show AB wr g 96 [x0, x1, x2, x3, x4] from HA.out).k5
      go_wp2_with (go_at_call 89; refine q.out.mono ?_; rintro e w5 ⟨er, rfl, b5⟩; have HA5 : Hid (AB w5 g 96 [x0, x1, x2, x3, x4]) := hide_ (HA.out.later b5); have HF5 := hide_ (HF.out.later b5); have HN5 := hide_ (HN.out.later b5); have KB5 := hide_ (KB.out.trans (b5.mono KB.out.size)); obtain ⟨c0, c1, c2, c3, c4, d0, d1, d2, d3, d4⟩ := HA5.out.k5; obtain ⟨m0, m1, m2, m3, -⟩ := HN5.out.k4; have hsz5 := hide_ b5.size; clear b5)
      go_roundw
      case rel => exact ⟨1, 1, 2, by omega, by first | rfl | go_num, hide_ rfl, by first | rfl | go_num, hide_ rfl, hide_ (HA5.out.set (j := 0) _), hide_ (HF5.out.far _ hne), hide_ (HN5.out.far _ (by omega)), hide_ (KB5.out.setCell (p := ⟨g, 0, none⟩) hg _)⟩
      case measure => simp [intOf]
    · have hz : jz = 1 := HJZ.out
      have ha : az = 2 := HAZ.out
      subst hz
      subst ha
      clear HJZ HAZ hj
      have q : Hid (Calls Tryz.prog 89 #[v, .int .i64 2, .int .i64 1] wr fun e w' => ∃ er, e = .returned (.tuple #[.int .i64 (l.getD 2 0), .int .i64 er]) ∧ Below wr.heap.size wr w') := hide_ (by have := nget1 v l 2 wr (HB0.out.later KB.out) (by have := H8.out; omega) (by omega); simpa using this)
      obtain ⟨-, -, -, -, -, f0, f1, f2, f3, f4⟩ := (show AB wr g 96 [.int .i64 (be2 l 0), x1, x2, x3, x4] from HA.out).k5
      go_wp2_with (go_at_call 89; refine q.out.mono ?_; rintro e w5 ⟨er, rfl, b5⟩; have HA5 : Hid (AB w5 g 96 [.int .i64 (be2 l 0), x1, x2, x3, x4]) := hide_ (HA.out.later b5); have HF5 := hide_ (HF.out.later b5); have HN5 := hide_ (HN.out.later b5); have KB5 := hide_ (KB.out.trans (b5.mono KB.out.size)); obtain ⟨c0, c1, c2, c3, c4, d0, d1, d2, d3, d4⟩ := HA5.out.k5; obtain ⟨m0, m1, m2, m3, -⟩ := HN5.out.k4; have hsz5 := hide_ b5.size; clear b5)
      go_roundw
      case rel => exact ⟨2, 2, 3, by omega, by first | rfl | go_num, hide_ rfl, by first | rfl | go_num, hide_ rfl, hide_ (HA5.out.set (j := 1) _), hide_ (HF5.out.far _ hne), hide_ (HN5.out.far _ (by omega)), hide_ (KB5.out.setCell (p := ⟨g, 1, none⟩) hg _)⟩
      case measure => simp [intOf]
    · have hz : jz = 2 := HJZ.out
      have ha : az = 3 := HAZ.out
      subst hz
      subst ha
      clear HJZ HAZ hj
      have q : Hid (Calls Tryz.prog 89 #[v, .int .i64 3, .int .i64 1] wr fun e w' => ∃ er, e = .returned (.tuple #[.int .i64 (l.getD 3 0), .int .i64 er]) ∧ Below wr.heap.size wr w') := hide_ (by have := nget1 v l 3 wr (HB0.out.later KB.out) (by have := H8.out; omega) (by omega); simpa using this)
      obtain ⟨-, -, -, -, -, f0, f1, f2, f3, f4⟩ := (show AB wr g 96 [.int .i64 (be2 l 0), .int .i64 (l.getD 2 0), x2, x3, x4] from HA.out).k5
      go_wp2_with (go_at_call 89; refine q.out.mono ?_; rintro e w5 ⟨er, rfl, b5⟩; have HA5 : Hid (AB w5 g 96 [.int .i64 (be2 l 0), .int .i64 (l.getD 2 0), x2, x3, x4]) := hide_ (HA.out.later b5); have HF5 := hide_ (HF.out.later b5); have HN5 := hide_ (HN.out.later b5); have KB5 := hide_ (KB.out.trans (b5.mono KB.out.size)); obtain ⟨c0, c1, c2, c3, c4, d0, d1, d2, d3, d4⟩ := HA5.out.k5; obtain ⟨m0, m1, m2, m3, -⟩ := HN5.out.k4; have hsz5 := hide_ b5.size; clear b5)
      go_roundw
      case rel => exact ⟨3, 3, 4, by omega, by first | rfl | go_num, hide_ rfl, by first | rfl | go_num, hide_ rfl, hide_ (HA5.out.set (j := 4) _), hide_ (HF5.out.far _ hne), hide_ (HN5.out.far _ (by omega)), hide_ (KB5.out.setCell (p := ⟨g, 4, none⟩) hg _)⟩
      case measure => simp [intOf]
    · have hz : jz = 3 := HJZ.out
      have ha : az = 4 := HAZ.out
      subst hz
      subst ha
      clear HJZ HAZ hj
      have q : Hid (Calls Tryz.prog 89 #[v, .int .i64 4, .int .i64 4] wr fun e w' => ∃ er, e = .returned (.tuple #[.int .i64 (be4 l 4), .int .i64 er]) ∧ Below wr.heap.size wr w') := hide_ (by have := nget4 v l 4 wr (HB0.out.later KB.out) (by omega); simpa using this)
      obtain ⟨-, -, -, -, -, f0, f1, f2, f3, f4⟩ := (show AB wr g 96 [.int .i64 (be2 l 0), .int .i64 (l.getD 2 0), x2, x3, .int .i64 (l.getD 3 0)] from HA.out).k5
      go_wp2_with (go_at_call 89; refine q.out.mono ?_; rintro e w5 ⟨er, rfl, b5⟩; have HA5 : Hid (AB w5 g 96 [.int .i64 (be2 l 0), .int .i64 (l.getD 2 0), x2, x3, .int .i64 (l.getD 3 0)]) := hide_ (HA.out.later b5); have HF5 := hide_ (HF.out.later b5); have HN5 := hide_ (HN.out.later b5); have KB5 := hide_ (KB.out.trans (b5.mono KB.out.size)); obtain ⟨c0, c1, c2, c3, c4, d0, d1, d2, d3, d4⟩ := HA5.out.k5; obtain ⟨m0, m1, m2, m3, -⟩ := HN5.out.k4; have hsz5 := hide_ b5.size; clear b5)
      go_roundw
      case rel => exact ⟨4, 4, 8, by omega, by first | rfl | go_num, hide_ rfl, by first | rfl | go_num, hide_ rfl, hide_ (HA5.out.set (j := 2) _), hide_ (HF5.out.far _ hne), hide_ (HN5.out.far _ (by omega)), hide_ (KB5.out.setCell (p := ⟨g, 2, none⟩) hg _)⟩
      case measure => simp [intOf]
    · have hz : jz = 4 := HJZ.out
      subst hz
      clear HJZ hj
      go_wp2_with fail
      go_end0
      exact ⟨rfl, HA.out, KB.out⟩

end Go.Proofs.YthhijfphfcmniaaGreat

namespace Go.Proofs.YthhijfphfcmniaaGreat
open Go Go.RowKit
set_option linter.unusedVariables false
set_option linter.unusedSimpArgs false

set_option maxRecDepth 100000 in
set_option maxHeartbeats 8000000 in
theorem gd_short (ao : Option Addr) (cap : Nat) (l : List Int) (w : World) (hB : Bytes w (.slice ao l.length cap) l) (h : l.length < 8) :
    Calls Tryz.prog 31 #[.slice ao l.length cap] w fun e w' => e = .returned (.tuple #[.agg #[.int .i64 0, .int .i64 0, .int .i64 0, .slice none 0 0], .agg #[.bool true, .int .i64 1, .int .i64 6]]) ∧ Below w.heap.size w w' := by
  have R0 := hide_ ((AB.at0 w 50 [.int .i64 0, .int .i64 0, .int .i64 0, .slice none 0 0]).alloc (.cells #[.bool false, .int .i64 0, .int .i64 0] 44))
  have F0 := hide_ (AB.at1 w (.cells #[.int .i64 0, .int .i64 0, .int .i64 0, .slice none 0 0] 50) 44 [.bool false, .int .i64 0, .int .i64 0])
  have B0 := hide_ (below2 w (.cells #[.int .i64 0, .int .i64 0, .int .i64 0, .slice none 0 0] 50) (.cells #[.bool false, .int .i64 0, .int .i64 0] 44))
  have hm : l.length ≤ 9223372036854775807 := by obtain ⟨_, _, h1⟩ := Bytes.at hB; unfold maxLen at *; omega
  have h' : (l.length : Int) < 8 := by omega
  clear hB h
  go_enter Tryz.func31, Tryz.ntmps31
  go_wp2_with (go_at_call 66; refine (grefuse_any _ _ _).mono ?_; rintro e w9 ⟨rfl, b9⟩; have k9 := B0.out.trans (b9.mono B0.out.size); obtain ⟨r0, r1, r2, r3, r4, r5, r6, r7⟩ := (R0.out.later b9).k4; obtain ⟨s0, s1, s2, s3, s4, s5⟩ := ((F0.out.later b9).fark4 (f := w.heap.size) (by omega) (.int .i64 0) (.int .i64 0) (.int .i64 0) (.slice none 0 0)).three; obtain ⟨u0, u1, u2, u3, -⟩ := (((R0.out.later b9).setk4 (.int .i64 0) (.int .i64 0) (.int .i64 0) (.slice none 0 0)).farx3 (f := (w.heap.size + 1)) (by omega) (.bool true) (.int .i64 1) (.int .i64 6)).k4; obtain ⟨u4, u5, u6, -⟩ := (((F0.out.later b9).fark4 (f := w.heap.size) (by omega) (.int .i64 0) (.int .i64 0) (.int .i64 0) (.slice none 0 0)).set3 (.bool true) (.int .i64 1) (.int .i64 6)).three; have bb := below_set3 (g := (w.heap.size + 1)) (below_setk4 (g := w.heap.size) k9 (Nat.le_refl _) (.int .i64 0) (.int .i64 0) (.int .i64 0) (.slice none 0 0)) (by omega) (.bool true) (.int .i64 1) (.int .i64 6))
  exact bodyPost_ret (v := .tuple #[.agg #[.int .i64 0, .int .i64 0, .int .i64 0, .slice none 0 0], .agg #[.bool true, .int .i64 1, .int .i64 6]]) (by simp [results, Tryz.results31, go_sem, u0, u1, u2, u3, u4, u5, u6]) rfl ⟨rfl, bb⟩

set_option maxRecDepth 100000 in
set_option maxHeartbeats 8000000 in
theorem gd_nz (ao : Option Addr) (cap : Nat) (l : List Int) (w : World) (hB : Bytes w (.slice ao l.length cap) l) (h : 8 ≤ l.length) (hz : ¬ l.getD 3 0 = 0) :
    Calls Tryz.prog 31 #[.slice ao l.length cap] w fun e w' => e = .returned (.tuple #[.agg #[.int .i64 0, .int .i64 0, .int .i64 0, .slice none 0 0], .agg #[.bool true, .int .i64 1, .int .i64 6]]) ∧ Below w.heap.size w w' := by
  have R0 := hide_ ((AB.at0 w 50 [.int .i64 0, .int .i64 0, .int .i64 0, .slice none 0 0]).alloc (.cells #[.bool false, .int .i64 0, .int .i64 0] 44))
  have F0 := hide_ (AB.at1 w (.cells #[.int .i64 0, .int .i64 0, .int .i64 0, .slice none 0 0] 50) 44 [.bool false, .int .i64 0, .int .i64 0])
  have B0 := hide_ (below2 w (.cells #[.int .i64 0, .int .i64 0, .int .i64 0, .slice none 0 0] 50) (.cells #[.bool false, .int .i64 0, .int .i64 0] 44))
  have hm : l.length ≤ 9223372036854775807 := by obtain ⟨_, _, h1⟩ := Bytes.at hB; unfold maxLen at *; omega
  have h' : ¬ (l.length : Int) < 8 := by omega
  have qread : Hid (Calls Tryz.prog 67 #[.slice ao l.length cap, .slice (some ⟨w.heap.size + 1 + 1 + 1, 0, none⟩) 4 4] ((((w.alloc (.cells #[.int .i64 0, .int .i64 0, .int .i64 0, .slice none 0 0] 50)).alloc (.cells #[.bool false, .int .i64 0, .int .i64 0] 44)).alloc (.cells #[.int .i64 0, .int .i64 0, .int .i64 0, .slice none 0 0, .int .i64 0] 96)).alloc (.cells #[.pointer (some ⟨w.heap.size + 1 + 1, 0, none⟩), .pointer (some ⟨w.heap.size + 1 + 1, 1, none⟩), .pointer (some ⟨w.heap.size + 1 + 1, 4, none⟩), .pointer (some ⟨w.heap.size + 1 + 1, 2, none⟩)] 101)) fun e w' => e = .returned (.tuple #[]) ∧ AB w' (w.heap.size + 1 + 1) 96 [.int .i64 (be2 l 0), .int .i64 (l.getD 2 0), .int .i64 (be4 l 4), .slice none 0 0, .int .i64 (l.getD 3 0)] ∧ Below ((w.alloc (.cells #[.int .i64 0, .int .i64 0, .int .i64 0, .slice none 0 0] 50)).alloc (.cells #[.bool false, .int .i64 0, .int .i64 0] 44)).heap.size ((w.alloc (.cells #[.int .i64 0, .int .i64 0, .int .i64 0, .slice none 0 0] 50)).alloc (.cells #[.bool false, .int .i64 0, .int .i64 0] 44)) w') := hide_ (gread_any (.slice ao l.length cap) l (w.heap.size + 1 + 1) (w.heap.size + 1 + 1 + 1) _ _ _ _ _ ((w.alloc (.cells #[.int .i64 0, .int .i64 0, .int .i64 0, .slice none 0 0] 50)).alloc (.cells #[.bool false, .int .i64 0, .int .i64 0] 44)) ((((w.alloc (.cells #[.int .i64 0, .int .i64 0, .int .i64 0, .slice none 0 0] 50)).alloc (.cells #[.bool false, .int .i64 0, .int .i64 0] 44)).alloc (.cells #[.int .i64 0, .int .i64 0, .int .i64 0, .slice none 0 0, .int .i64 0] 96)).alloc (.cells #[.pointer (some ⟨w.heap.size + 1 + 1, 0, none⟩), .pointer (some ⟨w.heap.size + 1 + 1, 1, none⟩), .pointer (some ⟨w.heap.size + 1 + 1, 4, none⟩), .pointer (some ⟨w.heap.size + 1 + 1, 2, none⟩)] 101)) (hB.later B0.out) h (((below1 ((w.alloc (.cells #[.int .i64 0, .int .i64 0, .int .i64 0, .slice none 0 0] 50)).alloc (.cells #[.bool false, .int .i64 0, .int .i64 0] 44)) (.cells #[.int .i64 0, .int .i64 0, .int .i64 0, .slice none 0 0, .int .i64 0] 96)).alloc (by simp) _)) (by simp) (by omega) (by have := (AB.at0 ((w.alloc (.cells #[.int .i64 0, .int .i64 0, .int .i64 0, .slice none 0 0] 50)).alloc (.cells #[.bool false, .int .i64 0, .int .i64 0] 44)) 96 [.int .i64 0, .int .i64 0, .int .i64 0, .slice none 0 0, .int .i64 0]).alloc (.cells #[.pointer (some ⟨w.heap.size + 1 + 1, 0, none⟩), .pointer (some ⟨w.heap.size + 1 + 1, 1, none⟩), .pointer (some ⟨w.heap.size + 1 + 1, 4, none⟩), .pointer (some ⟨w.heap.size + 1 + 1, 2, none⟩)] 101); simpa using this) (by have := AB.at0 (((w.alloc (.cells #[.int .i64 0, .int .i64 0, .int .i64 0, .slice none 0 0] 50)).alloc (.cells #[.bool false, .int .i64 0, .int .i64 0] 44)).alloc (.cells #[.int .i64 0, .int .i64 0, .int .i64 0, .slice none 0 0, .int .i64 0] 96)) 101 [.pointer (some ⟨w.heap.size + 1 + 1, 0, none⟩), .pointer (some ⟨w.heap.size + 1 + 1, 1, none⟩), .pointer (some ⟨w.heap.size + 1 + 1, 4, none⟩), .pointer (some ⟨w.heap.size + 1 + 1, 2, none⟩)]; simpa using this))
  clear hB h
  generalize be2 l 0 = y0 at *
  generalize l.getD 2 0 = y1 at *
  generalize be4 l 4 = y2 at *
  generalize l.getD 3 0 = y3 at *
  go_enter Tryz.func31, Tryz.ntmps31
  go_wp2_with (first | (go_at_call 67; refine qread.out.mono ?_; rintro e w1 ⟨rfl, C1, b1⟩; have k1 := hide_ (B0.out.trans (b1.mono (by simp; omega))); have R1 := hide_ (R0.out.later b1); have F1 := hide_ (F0.out.later b1); have C1 := hide_ C1; obtain ⟨c0, c1, c2, c3, c4, -⟩ := C1.out.k5; clear b1) | (go_at_call 66; refine (grefuse_any _ _ _).mono ?_; rintro e w9 ⟨rfl, b9⟩; have k9 := k1.out.trans (b9.mono k1.out.size); obtain ⟨r0, r1, r2, r3, r4, r5, r6, r7⟩ := (R1.out.later b9).k4; obtain ⟨s0, s1, s2, s3, s4, s5⟩ := ((F1.out.later b9).fark4 (f := w.heap.size) (by omega) (.int .i64 0) (.int .i64 0) (.int .i64 0) (.slice none 0 0)).three; obtain ⟨u0, u1, u2, u3, -⟩ := (((R1.out.later b9).setk4 (.int .i64 0) (.int .i64 0) (.int .i64 0) (.slice none 0 0)).farx3 (f := (w.heap.size + 1)) (by omega) (.bool true) (.int .i64 1) (.int .i64 6)).k4; obtain ⟨u4, u5, u6, -⟩ := (((F1.out.later b9).fark4 (f := w.heap.size) (by omega) (.int .i64 0) (.int .i64 0) (.int .i64 0) (.slice none 0 0)).set3 (.bool true) (.int .i64 1) (.int .i64 6)).three; have bb := below_set3 (g := (w.heap.size + 1)) (below_setk4 (g := w.heap.size) k9 (Nat.le_refl _) (.int .i64 0) (.int .i64 0) (.int .i64 0) (.slice none 0 0)) (by omega) (.bool true) (.int .i64 1) (.int .i64 6)))
  exact bodyPost_ret (v := .tuple #[.agg #[.int .i64 0, .int .i64 0, .int .i64 0, .slice none 0 0], .agg #[.bool true, .int .i64 1, .int .i64 6]]) (by simp [results, Tryz.results31, go_sem, u0, u1, u2, u3, u4, u5, u6]) rfl ⟨rfl, bb⟩

set_option maxRecDepth 100000 in
set_option maxHeartbeats 8000000 in
theorem gd_chk (ao : Option Addr) (cap : Nat) (l : List Int) (x : Int) (w : World) (hB : Bytes w (.slice ao l.length cap) l) (h : 8 ≤ l.length) (hz : l.getD 3 0 = 0) (qc : ∀ w, Calls Tryz.prog 68 #[.agg #[.int .i64 (be2 l 0), .int .i64 (l.getD 2 0), .int .i64 (be4 l 4), .slice none 0 0]] w fun e w' => e = .returned (.agg #[.bool true, .int .i64 6, .int .i64 x]) ∧ Below w.heap.size w w') :
    Calls Tryz.prog 31 #[.slice ao l.length cap] w fun e w' => e = .returned (.tuple #[.agg #[.int .i64 0, .int .i64 0, .int .i64 0, .slice none 0 0], .agg #[.bool true, .int .i64 6, .int .i64 x]]) ∧ Below w.heap.size w w' := by
  have R0 := hide_ ((AB.at0 w 50 [.int .i64 0, .int .i64 0, .int .i64 0, .slice none 0 0]).alloc (.cells #[.bool false, .int .i64 0, .int .i64 0] 44))
  have F0 := hide_ (AB.at1 w (.cells #[.int .i64 0, .int .i64 0, .int .i64 0, .slice none 0 0] 50) 44 [.bool false, .int .i64 0, .int .i64 0])
  have B0 := hide_ (below2 w (.cells #[.int .i64 0, .int .i64 0, .int .i64 0, .slice none 0 0] 50) (.cells #[.bool false, .int .i64 0, .int .i64 0] 44))
  have hm : l.length ≤ 9223372036854775807 := by obtain ⟨_, _, h1⟩ := Bytes.at hB; unfold maxLen at *; omega
  have h' : ¬ (l.length : Int) < 8 := by omega
  have qread : Hid (Calls Tryz.prog 67 #[.slice ao l.length cap, .slice (some ⟨w.heap.size + 1 + 1 + 1, 0, none⟩) 4 4] ((((w.alloc (.cells #[.int .i64 0, .int .i64 0, .int .i64 0, .slice none 0 0] 50)).alloc (.cells #[.bool false, .int .i64 0, .int .i64 0] 44)).alloc (.cells #[.int .i64 0, .int .i64 0, .int .i64 0, .slice none 0 0, .int .i64 0] 96)).alloc (.cells #[.pointer (some ⟨w.heap.size + 1 + 1, 0, none⟩), .pointer (some ⟨w.heap.size + 1 + 1, 1, none⟩), .pointer (some ⟨w.heap.size + 1 + 1, 4, none⟩), .pointer (some ⟨w.heap.size + 1 + 1, 2, none⟩)] 101)) fun e w' => e = .returned (.tuple #[]) ∧ AB w' (w.heap.size + 1 + 1) 96 [.int .i64 (be2 l 0), .int .i64 (l.getD 2 0), .int .i64 (be4 l 4), .slice none 0 0, .int .i64 (l.getD 3 0)] ∧ Below ((w.alloc (.cells #[.int .i64 0, .int .i64 0, .int .i64 0, .slice none 0 0] 50)).alloc (.cells #[.bool false, .int .i64 0, .int .i64 0] 44)).heap.size ((w.alloc (.cells #[.int .i64 0, .int .i64 0, .int .i64 0, .slice none 0 0] 50)).alloc (.cells #[.bool false, .int .i64 0, .int .i64 0] 44)) w') := hide_ (gread_any (.slice ao l.length cap) l (w.heap.size + 1 + 1) (w.heap.size + 1 + 1 + 1) _ _ _ _ _ ((w.alloc (.cells #[.int .i64 0, .int .i64 0, .int .i64 0, .slice none 0 0] 50)).alloc (.cells #[.bool false, .int .i64 0, .int .i64 0] 44)) ((((w.alloc (.cells #[.int .i64 0, .int .i64 0, .int .i64 0, .slice none 0 0] 50)).alloc (.cells #[.bool false, .int .i64 0, .int .i64 0] 44)).alloc (.cells #[.int .i64 0, .int .i64 0, .int .i64 0, .slice none 0 0, .int .i64 0] 96)).alloc (.cells #[.pointer (some ⟨w.heap.size + 1 + 1, 0, none⟩), .pointer (some ⟨w.heap.size + 1 + 1, 1, none⟩), .pointer (some ⟨w.heap.size + 1 + 1, 4, none⟩), .pointer (some ⟨w.heap.size + 1 + 1, 2, none⟩)] 101)) (hB.later B0.out) h (((below1 ((w.alloc (.cells #[.int .i64 0, .int .i64 0, .int .i64 0, .slice none 0 0] 50)).alloc (.cells #[.bool false, .int .i64 0, .int .i64 0] 44)) (.cells #[.int .i64 0, .int .i64 0, .int .i64 0, .slice none 0 0, .int .i64 0] 96)).alloc (by simp) _)) (by simp) (by omega) (by have := (AB.at0 ((w.alloc (.cells #[.int .i64 0, .int .i64 0, .int .i64 0, .slice none 0 0] 50)).alloc (.cells #[.bool false, .int .i64 0, .int .i64 0] 44)) 96 [.int .i64 0, .int .i64 0, .int .i64 0, .slice none 0 0, .int .i64 0]).alloc (.cells #[.pointer (some ⟨w.heap.size + 1 + 1, 0, none⟩), .pointer (some ⟨w.heap.size + 1 + 1, 1, none⟩), .pointer (some ⟨w.heap.size + 1 + 1, 4, none⟩), .pointer (some ⟨w.heap.size + 1 + 1, 2, none⟩)] 101); simpa using this) (by have := AB.at0 (((w.alloc (.cells #[.int .i64 0, .int .i64 0, .int .i64 0, .slice none 0 0] 50)).alloc (.cells #[.bool false, .int .i64 0, .int .i64 0] 44)).alloc (.cells #[.int .i64 0, .int .i64 0, .int .i64 0, .slice none 0 0, .int .i64 0] 96)) 101 [.pointer (some ⟨w.heap.size + 1 + 1, 0, none⟩), .pointer (some ⟨w.heap.size + 1 + 1, 1, none⟩), .pointer (some ⟨w.heap.size + 1 + 1, 4, none⟩), .pointer (some ⟨w.heap.size + 1 + 1, 2, none⟩)]; simpa using this))
  have qc := hide_ qc
  rw [hz] at qread
  clear hB h hz
  generalize be2 l 0 = y0 at *
  generalize l.getD 2 0 = y1 at *
  generalize be4 l 4 = y2 at *
  go_enter Tryz.func31, Tryz.ntmps31
  go_upto_region 9 with (first | (go_at_call 67; refine qread.out.mono ?_; rintro e w1 ⟨rfl, C1, b1⟩; have k1 := hide_ (B0.out.trans (b1.mono (by simp; omega))); have R1 := hide_ (R0.out.later b1); have F1 := hide_ (F0.out.later b1); have C1 := hide_ C1; obtain ⟨c0, c1, c2, c3, c4, -⟩ := C1.out.k5; clear b1) | (go_at_call 68; refine (qc.out _).mono ?_; rintro e w2 ⟨rfl, b2⟩; have k2 := hide_ (k1.out.trans (b2.mono k1.out.size)); have R2 := hide_ (R1.out.later b2); have F2 := hide_ (F1.out.later b2); have C2 := hide_ (C1.out.later b2); obtain ⟨d0, d1, d2, d3, d4, -⟩ := C2.out.k5; clear b2))
  have k4x : Below w.heap.size w (w2.alloc (.cells #[.bool true, .int .i64 6, .int .i64 x] 44)) := k2.out.trans ((below1 w2 _).mono k2.out.size)
  have RX := hide_ (R2.out.alloc (.cells #[.bool true, .int .i64 6, .int .i64 x] 44))
  have FX := hide_ (F2.out.alloc (.cells #[.bool true, .int .i64 6, .int .i64 x] 44))
  obtain ⟨f0, f1, f2, -⟩ := (AB.at0 w2 44 [.bool true, .int .i64 6, .int .i64 x]).three
  have hgw : w.heap.size + 2 ≤ w2.heap.size := by have := F2.out.lt; omega
  generalize (w2.alloc (.cells #[.bool true, .int .i64 6, .int .i64 x] 44)) = X at *
  have RD : AB X.drew w.heap.size 50 [.int .i64 0, .int .i64 0, .int .i64 0, .slice none 0 0] := RX.out
  have FD : AB X.drew (w.heap.size + 1) 44 [.bool false, .int .i64 0, .int .i64 0] := FX.out
  obtain ⟨r0, r1, r2, r3, r4, r5, r6, r7⟩ := RD.k4
  obtain ⟨s0, s1, s2, s3, s4, s5⟩ := (FD.fark4 (f := w.heap.size) (by omega) (.int .i64 0) (.int .i64 0) (.int .i64 0) (.slice none 0 0)).three
  obtain ⟨u0, u1, u2, u3, -⟩ := ((RD.setk4 (.int .i64 0) (.int .i64 0) (.int .i64 0) (.slice none 0 0)).farx3 (f := (w.heap.size + 1)) (by omega) (.bool true) (.int .i64 6) (.int .i64 x)).k4
  obtain ⟨u4, u5, u6, -⟩ := ((FD.fark4 (f := w.heap.size) (by omega) (.int .i64 0) (.int .i64 0) (.int .i64 0) (.slice none 0 0)).set3 (.bool true) (.int .i64 6) (.int .i64 x)).three
  have bb := below_set3 (g := (w.heap.size + 1)) (below_setk4 (g := w.heap.size) k4x.drew (Nat.le_refl _) (.int .i64 0) (.int .i64 0) (.int .i64 0) (.slice none 0 0)) (by omega) (.bool true) (.int .i64 6) (.int .i64 x)
  clear RD FD bb
  refine wp_region_held_drew (S := (fun w' => w'.cell? ⟨w2.heap.size, 0, none⟩ = some (.bool true) ∧ w'.cell? ⟨w2.heap.size, 1, none⟩ = some (.int .i64 6) ∧ w'.cell? ⟨w2.heap.size, 2, none⟩ = some (.int .i64 x) ∧ Below w.heap.size w w')) (by kernel_rfl) (⟨f0, f1, f2, k4x.drew⟩) (fun hHeld => ?_)
  generalize X.drew = D at *
  refine takeR (i := 0) (v := ?_) rfl (by kernel_rfl) (by kernel_rfl) (by kernel_rfl) (some 33) rfl (Or.inl ⟨by rfl, ?_⟩) (fun _ _ _ h => h) (by assumption) ?_
  rotate_left
  · intro w hSw; (try dsimp only at hSw); go_simp; (try with_reducible rfl)
  simp only [Act.put, List.setIfInBounds_toArray, List.set_cons_zero, List.set_cons_succ]
  refine takeR (i := 1) (v := ?_) rfl (by kernel_rfl) (by kernel_rfl) (by kernel_rfl) (some 34) rfl (Or.inl ⟨by rfl, ?_⟩) (fun _ _ _ h => h) (by assumption) ?_
  rotate_left
  · intro w hSw; (try dsimp only at hSw); go_simp; (try with_reducible rfl)
  simp only [Act.put, List.setIfInBounds_toArray, List.set_cons_zero, List.set_cons_succ]
  refine wpAnyH_ready (rs := [2]) (by kernel_rfl) (by simp) ?_
  refine AllReadyH.cons rfl (fun K hK => ?_) (AllReadyH.nil)
  go_simp
  refine hK.out _ _ (⟨(cell_fillK (by dsimp only; omega) _ _ _ _).trans hHeld.1, (cell_fillK (by dsimp only; omega) _ _ _ _).trans hHeld.2.1, (cell_fillK (by dsimp only; omega) _ _ _ _).trans hHeld.2.2.1, below_setk4 (g := w.heap.size) hHeld.2.2.2 (Nat.le_refl _) _ _ _ _⟩) (fun hHeld => ?_)
  clear hK K
  try simp only [Act.put, List.setIfInBounds_toArray, List.set_cons_zero, List.set_cons_succ]
  refine wpAnyH_ready (rs := [3]) (by kernel_rfl) (by simp) ?_
  refine AllReadyH.cons rfl (fun K hK => ?_) (AllReadyH.nil)
  go_simp
  refine hK.out _ _ (kW3_3 hHeld (by omega) (by dsimp only; omega) (by dsimp only; omega) (by dsimp only; omega)) (fun hHeld => ?_)
  clear hK K
  try simp only [Act.put, List.setIfInBounds_toArray, List.set_cons_zero, List.set_cons_succ]
  refine wpAnyH_done (by kernel_rfl) ?_ _
  go_wp2_with fail
  exact bodyPost_ret (v := .tuple #[.agg #[.int .i64 0, .int .i64 0, .int .i64 0, .slice none 0 0], .agg #[.bool true, .int .i64 6, .int .i64 x]]) (by simp [results, Tryz.results31, go_sem, u0, u1, u2, u3, u4, u5, u6]) rfl ⟨rfl, hHeld.2.2.2⟩

end Go.Proofs.YthhijfphfcmniaaGreat

namespace Go.Proofs.YthhijfphfcmniaaGreat
open Go Go.RowKit
set_option linter.unusedVariables false
set_option linter.unusedSimpArgs false

set_option maxRecDepth 100000 in
set_option maxHeartbeats 8000000 in
theorem bd_okS (v : Value) (l0 : List Int) (Ls : List BK) (w : World) (hB : Bytes w v l0) (h6 : l0.length ≤ 60000) (hP : BOk Ans l0 Ls) (hLL : Ls.length ≤ 100) :
    Calls Tryz.prog 69 #[v] w fun e w' => (∃ r, e = .returned (.tuple #[r, .agg #[.bool false, .int .i64 0, .int .i64 0]]) ∧ ∃ P : List PB, P.map (·.1) = Ls ∧ BRow w' (w.heap.size + 1) r P) ∧ Below w.heap.size w w' := by
  have F0 := hide_ (AB.at0 w 44 [.bool false, .int .i64 0, .int .i64 0])
  have B0 := hide_ (below1 w (.cells #[.bool false, .int .i64 0, .int .i64 0] 44))
  obtain ⟨ao0, cap0, rfl, hbr⟩ := hB
  have hB : Bytes w (.slice ao0 l0.length cap0) l0 := ⟨ao0, cap0, rfl, hbr⟩
  have HB0 := hide_ (hB.later B0.out)
  have g6 : ¬ (60000 : Int) < (l0.length : Int) := by omega
  clear hB hbr h6
  obtain ⟨i0, hi0, hz0, hz1, hz2⟩ := info_parts infoBu
  have HI : Hid (Tryz.prog.info? 87 = some i0 ∧ i0.zero = some (.agg #[.int .i64 0, .int .i64 0, .int .i64 0, .slice none 0 0]) ∧ i0.size = 4 ∧ i0.bytes = 48) := ⟨hi0, hz0, hz1, hz2⟩
  clear hi0 hz0 hz1 hz2
  have HP := hide_ hP
  clear hP
  have HLL := hide_ hLL
  clear hLL
  go_enter Tryz.func69, Tryz.ntmps69
  go_wp2
  go_loopw [0, 4] (fun b u wr => ∃ (ao : Option Addr) (n cap : Nat) (ua : Option Addr) (uc m : Nat) (l : List Int) (pre : List BK) (P : List PB) (R : List BK), b = .slice ao n cap ∧ u = .slice ua m uc ∧ n = l.length ∧ m ≤ 101 ∧ Hid (m = P.length) ∧ Hid (Bytes (w.alloc (.cells #[.bool false, .int .i64 0, .int .i64 0] 44)) (.slice ao n cap) l) ∧ Hid (BRow wr (w.alloc (.cells #[.bool false, .int .i64 0, .int .i64 0] 44)).heap.size (.slice ua m uc) P) ∧ Hid (BOk Ans l R ∧ pre ++ R = Ls) ∧ Hid (P.map (·.1) = pre.take 101) ∧ Hid (Below (w.alloc (.cells #[.bool false, .int .i64 0, .int .i64 0] 44)).heap.size (w.alloc (.cells #[.bool false, .int .i64 0, .int .i64 0] 44)) wr)) (fun b _ _ => slen2 b)
  case atStart => exact ⟨ao0, l0.length, cap0, none, 0, 0, l0, [], [], Ls, rfl, rfl, rfl, by simp, hide_ rfl, HB0, hide_ (BRow.nil _ _), hide_ ⟨HP.out, rfl⟩, hide_ rfl, hide_ (Below.refl _ _)⟩
  case round =>
    obtain ⟨ao, n, cap, ua, uc, m, l, pre, P, R, rfl, rfl, rfl, hKl, HM, HBy, HOw, HPP, HK, KB⟩ := hrel
    obtain ⟨hpo, hpre⟩ := HPP.out
    clear HPP
    cases hpo with
    | nil =>
      have hpr : pre = Ls := by simpa using hpre
      obtain ⟨s0, s1, s2, s3, s4, s5⟩ := (F0.out.later KB.out).three
      obtain ⟨u0, u1, u2, -⟩ := ((F0.out.later KB.out).set3 (.bool false) (.int .i64 0) (.int .i64 0)).three
      have bb := below_set3 (g := w.heap.size) (B0.out.trans (KB.out.mono B0.out.size)) (Nat.le_refl _) (.bool false) (.int .i64 0) (.int .i64 0)
      have hne : w.heap.size < (w.alloc (.cells #[.bool false, .int .i64 0, .int .i64 0] 44)).heap.size := by simp
      have HX := hide_ (fun x y z => HOw.out.far3 hne x y z)
      have hKL : P.map (·.1) = Ls := by rw [HK.out, hpr, List.take_of_length_le (by have := HLL.out; omega)]
      have g100 : ¬ (100 : Int) < (m : Int) := by have h1 := HLL.out; rw [← hKL, List.length_map, ← HM.out] at h1; omega
      have HKL := hide_ hKL
      clear hpre hpr hKL
      go_wp2
      refine bodyPost_ret (v := .tuple #[.slice ua m uc, .agg #[.bool false, .int .i64 0, .int .i64 0]]) (by simp [results, Tryz.results69, go_sem, u0, u1, u2]) rfl ⟨⟨_, rfl, ?_⟩, bb⟩
      exact ⟨P, HKL.out, by have := HX.out (.bool false) (.int .i64 0) (.int .i64 0); rw [World.size_alloc] at this; exact this⟩
    | @cons _ nn LL RR hd hrest =>
      have hle : nn ≤ l.length := by have := hd.1; have h2 := hd.2.1; unfold cutOk at this; omega
      have h0 : 16 ≤ nn := by have := hd.1; have h2 := hd.2.1; unfold cutOk at this; omega
      have qd := bread_step ao cap l nn LL wr (HBy.out.later KB.out) hd
      obtain ⟨rn, hrn⟩ : ∃ rn, LL.length = rn := ⟨_, rfl⟩
      have HRN := hide_ hrn
      have HO1 : Hid ((bkOf l nn LL).2.2.2 = LL) := hide_ rfl
      obtain ⟨ao2, -, s2, b2⟩ := bytes_slice HBy.out nn hle
      have HB2 := hide_ b2
      have hrest := hide_ hrest
      have hpre := hide_ hpre
      obtain ⟨O, hO⟩ : ∃ O, bkOf l nn LL = O := ⟨_, rfl⟩
      rw [hO] at qd HO1
      have hpre2 : Hid (pre ++ O :: RR = Ls) := hide_ (by rw [← hO]; exact hpre.out)
      clear hpre
      obtain ⟨v1, v2, v3, LO⟩ := O
      have HO1 : LO = LL := HO1.out
      subst HO1
      have qd := hide_ qd
      have gpos : (0 : Int) < (l.length : Int) := by omega
      clear b2 hd hrn hO
      by_cases hk : m ≤ 100
      · have g100 : (m : Int) ≤ 100 := by omega
        go_wp2_with (first | (go_at_call 105; refine (qd.out).mono ?_; rintro e w3 ⟨⟨r, rfl, ho⟩, b3⟩; obtain ⟨ru, rc, er⟩ := ownr_form ho; rw [HRN.out] at er; subst er; have HA3 := hide_ (ownr_base ho KB.out.size); clear ho; have j3 : Below wr.heap.size wr ((w3.alloc (.cells #[.int .i64 v1, .int .i64 v2, .int .i64 v3, .slice ru rn rc] 87)).alloc (.cells #[.bool false, .int .i64 0, .int .i64 0] 44)) := b3.trans ((below2 w3 _ _).mono b3.size); have K3 := KB.out.trans (j3.mono KB.out.size); obtain ⟨o0, o1, o2, o3, -⟩ := ((AB.at0 w3 87 [.int .i64 v1, .int .i64 v2, .int .i64 v3, .slice ru rn rc]).alloc (.cells #[.bool false, .int .i64 0, .int .i64 0] 44)).k4; obtain ⟨f0, f1, f2, -⟩ := (AB.at1 w3 (.cells #[.int .i64 v1, .int .i64 v2, .int .i64 v3, .slice ru rn rc] 87) 44 [.bool false, .int .i64 0, .int .i64 0]).three) | (at_builtin; refine wpList_append_newG (.tmp 27) (.tmp 29) 48 rfl 87 i0 (.agg #[.int .i64 0, .int .i64 0, .int .i64 0, .slice none 0 0]) 4 48 Tryz.underlying48 HI.out.1 HI.out.2.1 HI.out.2.2.1 HI.out.2.2.2 rfl (by decide) (w.alloc (.cells #[.bool false, .int .i64 0, .int .i64 0] 44)).heap.size (.slice ua m uc) m (bds P) (by simp [Act.eval, Act.put]) ((w3.alloc (.cells #[.int .i64 v1, .int .i64 v2, .int .i64 v3, .slice ru rn rc] 87)).alloc (.cells #[.bool false, .int .i64 0, .int .i64 0] 44)) (by have := (HOw.out.later j3).1; rw [← HM.out] at this; exact this) [.int .i64 v1, .int .i64 v2, .int .i64 v3, .slice ru rn rc] _ rfl 1 (by simp) (by simp [Value.oneCell']) (by simp [Act.eval, Act.put]) (by simp [Region.wanted]) (by unfold maxLen; omega) (by omega) K3.size ?_; intro v4 w4 own4 b4 g4))
        have R4 : BRow w4 (w.alloc (.cells #[.bool false, .int .i64 0, .int .i64 0] 44)).heap.size v4 (P ++ [((v1, v2, v3, LO), .slice ru rn rc)]) := BRow.push (HOw.out.later j3) (by have := ownr_later HA3.out (below2 w3 (.cells #[.int .i64 v1, .int .i64 v2, .int .i64 v3, .slice ru rn rc] 87) (.cells #[.bool false, .int .i64 0, .int .i64 0] 44)); rw [← HRN.out] at this ⊢; exact this) (by rw [← HM.out]; exact own4) g4
        have hl4 : (P ++ [((v1, v2, v3, LO), Value.slice ru rn rc)]).length = m + 1 := by rw [List.length_append, ← HM.out]; rfl
        obtain ⟨ua4, uc4, e4⟩ := ownr_form R4.1
        rw [hl4] at e4
        subst e4
        have R4 := hide_ R4
        have HM4 := hide_ hl4.symm
        have HK2 := hide_ (show (P ++ [((v1, v2, v3, LO), Value.slice ru rn rc)]).map (·.1) = (pre ++ [(v1, v2, v3, LO)]).take 101 by rw [List.map_append]; exact take_snocK HK.out (by rw [List.length_map, ← HM.out]; exact hk))
        have b4 := hide_ b4
        clear hl4 own4 g4
        go_wp2
        go_roundw
        case rel => exact ⟨ao2, l.length - nn, cap - nn, ua4, uc4, m + 1, l.drop nn, pre ++ [(v1, v2, v3, LO)], P ++ [((v1, v2, v3, LO), .slice ru rn rc)], RR, rfl, rfl, by rw [List.length_drop], by omega, HM4, HB2, R4, hide_ ⟨hrest.out, by rw [← hpre2.out]; simp⟩, HK2, hide_ (K3.trans b4.out)⟩
        case measure => simp [slen2]; omega
      · have g100 : ¬ ((m : Int) ≤ 100) := by omega
        have HK2 := hide_ (take_skipK (o := (v1, v2, v3, LO)) HK.out (by rw [List.length_map, ← HM.out]; exact hk))
        go_wp2_with (go_at_call 105; refine (qd.out).mono ?_; rintro e w3 ⟨⟨r, rfl, ho⟩, b3⟩; obtain ⟨ru, rc, er⟩ := ownr_form ho; rw [HRN.out] at er; subst er; have HA3 := hide_ (ownr_base ho KB.out.size); clear ho; have j3 : Below wr.heap.size wr ((w3.alloc (.cells #[.int .i64 v1, .int .i64 v2, .int .i64 v3, .slice ru rn rc] 87)).alloc (.cells #[.bool false, .int .i64 0, .int .i64 0] 44)) := b3.trans ((below2 w3 _ _).mono b3.size); have K3 := KB.out.trans (j3.mono KB.out.size); obtain ⟨o0, o1, o2, o3, -⟩ := ((AB.at0 w3 87 [.int .i64 v1, .int .i64 v2, .int .i64 v3, .slice ru rn rc]).alloc (.cells #[.bool false, .int .i64 0, .int .i64 0] 44)).k4; obtain ⟨f0, f1, f2, -⟩ := (AB.at1 w3 (.cells #[.int .i64 v1, .int .i64 v2, .int .i64 v3, .slice ru rn rc] 87) 44 [.bool false, .int .i64 0, .int .i64 0]).three)
        go_roundw
        case rel => exact ⟨ao2, l.length - nn, cap - nn, ua, uc, m, l.drop nn, pre ++ [(v1, v2, v3, LO)], P, RR, rfl, rfl, by rw [List.length_drop], by omega, HM, HB2, hide_ (HOw.out.later j3), hide_ ⟨hrest.out, by rw [← hpre2.out]; simp⟩, HK2, hide_ K3⟩
        case measure => simp [slen2]; omega

theorem own_setU {w : World} {base g o n size : Nat} {e : TypeId} {v : Value} {xs : List Value} (h : w.ownsRow base e size v n xs) (hg : g < base) (x : Value) : (w.setCell ⟨g, o, none⟩ x).ownsRow base e size v n xs := by
  refine ⟨h.1, ?_⟩
  rcases h.2 with k | ⟨g', cap, cur, rfl, hb, hk, r⟩
  · exact .inl k
  · exact .inr ⟨g', cap, cur, rfl, hb, (Below.heap_setCell _ _ _ _ (fun e => by have : g' = g := e; omega)).trans hk, r⟩
theorem BRow.set {w : World} {base g o : Nat} {u : Value} {P : List PB} (h : BRow w base u P) (hg : g < base) (x : Value) : BRow (w.setCell ⟨g, o, none⟩ x) base u P := ⟨own_setU h.1 hg x, fun p hp => own_setU (h.2 p hp) hg x⟩
set_option maxRecDepth 100000 in
set_option maxHeartbeats 8000000 in
theorem gd_bad (ao : Option Addr) (cap : Nat) (l : List Int) (c d : Int) (w : World) (hB : Bytes w (.slice ao l.length cap) l) (h : 8 ≤ l.length) (hz : l.getD 3 0 = 0) (qc : ∀ w, Calls Tryz.prog 68 #[.agg #[.int .i64 (be2 l 0), .int .i64 (l.getD 2 0), .int .i64 (be4 l 4), .slice none 0 0]] w fun e w' => e = .returned (.agg #[.bool false, .int .i64 0, .int .i64 0]) ∧ Below w.heap.size w w') (hP : ∀ (v : Value) (W : World), Bytes W v (l.drop 8) → Calls Tryz.prog 69 #[v] W fun e w' => e = .returned (.tuple #[.slice none 0 0, .agg #[.bool true, .int .i64 c, .int .i64 d]]) ∧ Below W.heap.size W w') :
    Calls Tryz.prog 31 #[.slice ao l.length cap] w fun e w' => e = .returned (.tuple #[.agg #[.int .i64 0, .int .i64 0, .int .i64 0, .slice none 0 0], .agg #[.bool true, .int .i64 c, .int .i64 d]]) ∧ Below w.heap.size w w' := by
  have R0 := hide_ ((AB.at0 w 50 [.int .i64 0, .int .i64 0, .int .i64 0, .slice none 0 0]).alloc (.cells #[.bool false, .int .i64 0, .int .i64 0] 44))
  have F0 := hide_ (AB.at1 w (.cells #[.int .i64 0, .int .i64 0, .int .i64 0, .slice none 0 0] 50) 44 [.bool false, .int .i64 0, .int .i64 0])
  have B0 := hide_ (below2 w (.cells #[.int .i64 0, .int .i64 0, .int .i64 0, .slice none 0 0] 50) (.cells #[.bool false, .int .i64 0, .int .i64 0] 44))
  have hm : l.length ≤ 9223372036854775807 := by obtain ⟨_, _, h1⟩ := Bytes.at hB; unfold maxLen at *; omega
  have h' : ¬ (l.length : Int) < 8 := by omega
  have qread : Hid (Calls Tryz.prog 67 #[.slice ao l.length cap, .slice (some ⟨w.heap.size + 1 + 1 + 1, 0, none⟩) 4 4] ((((w.alloc (.cells #[.int .i64 0, .int .i64 0, .int .i64 0, .slice none 0 0] 50)).alloc (.cells #[.bool false, .int .i64 0, .int .i64 0] 44)).alloc (.cells #[.int .i64 0, .int .i64 0, .int .i64 0, .slice none 0 0, .int .i64 0] 96)).alloc (.cells #[.pointer (some ⟨w.heap.size + 1 + 1, 0, none⟩), .pointer (some ⟨w.heap.size + 1 + 1, 1, none⟩), .pointer (some ⟨w.heap.size + 1 + 1, 4, none⟩), .pointer (some ⟨w.heap.size + 1 + 1, 2, none⟩)] 101)) fun e w' => e = .returned (.tuple #[]) ∧ AB w' (w.heap.size + 1 + 1) 96 [.int .i64 (be2 l 0), .int .i64 (l.getD 2 0), .int .i64 (be4 l 4), .slice none 0 0, .int .i64 (l.getD 3 0)] ∧ Below ((w.alloc (.cells #[.int .i64 0, .int .i64 0, .int .i64 0, .slice none 0 0] 50)).alloc (.cells #[.bool false, .int .i64 0, .int .i64 0] 44)).heap.size ((w.alloc (.cells #[.int .i64 0, .int .i64 0, .int .i64 0, .slice none 0 0] 50)).alloc (.cells #[.bool false, .int .i64 0, .int .i64 0] 44)) w') := hide_ (gread_any (.slice ao l.length cap) l (w.heap.size + 1 + 1) (w.heap.size + 1 + 1 + 1) _ _ _ _ _ ((w.alloc (.cells #[.int .i64 0, .int .i64 0, .int .i64 0, .slice none 0 0] 50)).alloc (.cells #[.bool false, .int .i64 0, .int .i64 0] 44)) ((((w.alloc (.cells #[.int .i64 0, .int .i64 0, .int .i64 0, .slice none 0 0] 50)).alloc (.cells #[.bool false, .int .i64 0, .int .i64 0] 44)).alloc (.cells #[.int .i64 0, .int .i64 0, .int .i64 0, .slice none 0 0, .int .i64 0] 96)).alloc (.cells #[.pointer (some ⟨w.heap.size + 1 + 1, 0, none⟩), .pointer (some ⟨w.heap.size + 1 + 1, 1, none⟩), .pointer (some ⟨w.heap.size + 1 + 1, 4, none⟩), .pointer (some ⟨w.heap.size + 1 + 1, 2, none⟩)] 101)) (hB.later B0.out) h (((below1 ((w.alloc (.cells #[.int .i64 0, .int .i64 0, .int .i64 0, .slice none 0 0] 50)).alloc (.cells #[.bool false, .int .i64 0, .int .i64 0] 44)) (.cells #[.int .i64 0, .int .i64 0, .int .i64 0, .slice none 0 0, .int .i64 0] 96)).alloc (by simp) _)) (by simp) (by omega) (by have := (AB.at0 ((w.alloc (.cells #[.int .i64 0, .int .i64 0, .int .i64 0, .slice none 0 0] 50)).alloc (.cells #[.bool false, .int .i64 0, .int .i64 0] 44)) 96 [.int .i64 0, .int .i64 0, .int .i64 0, .slice none 0 0, .int .i64 0]).alloc (.cells #[.pointer (some ⟨w.heap.size + 1 + 1, 0, none⟩), .pointer (some ⟨w.heap.size + 1 + 1, 1, none⟩), .pointer (some ⟨w.heap.size + 1 + 1, 4, none⟩), .pointer (some ⟨w.heap.size + 1 + 1, 2, none⟩)] 101); simpa using this) (by have := AB.at0 (((w.alloc (.cells #[.int .i64 0, .int .i64 0, .int .i64 0, .slice none 0 0] 50)).alloc (.cells #[.bool false, .int .i64 0, .int .i64 0] 44)).alloc (.cells #[.int .i64 0, .int .i64 0, .int .i64 0, .slice none 0 0, .int .i64 0] 96)) 101 [.pointer (some ⟨w.heap.size + 1 + 1, 0, none⟩), .pointer (some ⟨w.heap.size + 1 + 1, 1, none⟩), .pointer (some ⟨w.heap.size + 1 + 1, 4, none⟩), .pointer (some ⟨w.heap.size + 1 + 1, 2, none⟩)]; simpa using this))
  obtain ⟨ao3, -, sl3, b3⟩ := bytes_slice hB 8 h
  have sl3 : ∀ wx, (Instr.slice 25 (.slice ao l.length cap) (some (.int .i64 8)) none none).run Tryz.prog wx = .ok (.slice ao3 (l.length - 8) (cap - 8)) wx := sl3
  have qd := hide_ (fun W hW => hP _ W (b3.later (w' := W) hW))
  have qc := hide_ qc
  rw [hz] at qread
  clear hB h hz hP b3
  generalize be2 l 0 = y0 at *
  generalize l.getD 2 0 = y1 at *
  generalize be4 l 4 = y2 at *
  go_enter Tryz.func31, Tryz.ntmps31
  go_upto_region 12 with (first | (go_at_call 67; refine qread.out.mono ?_; rintro e w1 ⟨rfl, C1, b1⟩; have k1 := hide_ (B0.out.trans (b1.mono (by simp; omega))); have R1 := hide_ (R0.out.later b1); have F1 := hide_ (F0.out.later b1); have C1 := hide_ C1; obtain ⟨c0, c1, c2, c3, c4, -⟩ := C1.out.k5; clear b1) | (go_at_call 68; refine (qc.out _).mono ?_; rintro e w2 ⟨rfl, b2⟩; have b2' := b2.trans ((below1 w2 (.cells #[.bool false, .int .i64 0, .int .i64 0] 44)).mono b2.size); have k2 := hide_ (k1.out.trans (b2'.mono k1.out.size)); have R2 := hide_ (R1.out.later b2'); have F2 := hide_ (F1.out.later b2'); have C2 := hide_ (C1.out.later b2'); obtain ⟨d0, d1, d2, d3, d4, -⟩ := C2.out.k5; obtain ⟨m0, m1, m2, -⟩ := (AB.at0 w2 44 [.bool false, .int .i64 0, .int .i64 0]).three; clear b2 b2') | (go_at_call 69; refine (qd.out _ k2.out).mono ?_; rintro e w3 ⟨rfl, b3⟩; have k3 := hide_ (k2.out.trans (b3.mono k2.out.size)); have R3 := hide_ (R2.out.later b3); have F3 := hide_ (F2.out.later b3); obtain ⟨m0, m1, m2, -⟩ := (AB.at0 w3 44 [.bool true, .int .i64 c, .int .i64 d]).three; clear b3))
  have k4x : Below w.heap.size w (w3.alloc (.cells #[.bool true, .int .i64 c, .int .i64 d] 44)) := k3.out.trans ((below1 w3 _).mono k3.out.size)
  have RX := hide_ (R3.out.alloc (.cells #[.bool true, .int .i64 c, .int .i64 d] 44))
  have FX := hide_ (F3.out.alloc (.cells #[.bool true, .int .i64 c, .int .i64 d] 44))
  obtain ⟨f0, f1, f2, -⟩ := (AB.at0 w3 44 [.bool true, .int .i64 c, .int .i64 d]).three
  have hgw : w.heap.size + 2 ≤ w3.heap.size := by have := F3.out.lt; omega
  generalize (w3.alloc (.cells #[.bool true, .int .i64 c, .int .i64 d] 44)) = X at *
  have RD : AB X.drew w.heap.size 50 [.int .i64 0, .int .i64 0, .int .i64 0, .slice none 0 0] := RX.out
  have FD : AB X.drew (w.heap.size + 1) 44 [.bool false, .int .i64 0, .int .i64 0] := FX.out
  obtain ⟨r0, r1, r2, r3, r4, r5, r6, r7⟩ := RD.k4
  obtain ⟨s0, s1, s2, s3, s4, s5⟩ := (FD.fark4 (f := w.heap.size) (by omega) (.int .i64 0) (.int .i64 0) (.int .i64 0) (.slice none 0 0)).three
  obtain ⟨u0, u1, u2, u3, -⟩ := ((RD.setk4 (.int .i64 0) (.int .i64 0) (.int .i64 0) (.slice none 0 0)).farx3 (f := (w.heap.size + 1)) (by omega) (.bool true) (.int .i64 c) (.int .i64 d)).k4
  obtain ⟨u4, u5, u6, -⟩ := ((FD.fark4 (f := w.heap.size) (by omega) (.int .i64 0) (.int .i64 0) (.int .i64 0) (.slice none 0 0)).set3 (.bool true) (.int .i64 c) (.int .i64 d)).three
  have bb := below_set3 (g := (w.heap.size + 1)) (below_setk4 (g := w.heap.size) k4x.drew (Nat.le_refl _) (.int .i64 0) (.int .i64 0) (.int .i64 0) (.slice none 0 0)) (by omega) (.bool true) (.int .i64 c) (.int .i64 d)
  clear RD FD bb
  refine wp_region_held_drew (S := (fun w' => w'.cell? ⟨w3.heap.size, 0, none⟩ = some (.bool true) ∧ w'.cell? ⟨w3.heap.size, 1, none⟩ = some (.int .i64 c) ∧ w'.cell? ⟨w3.heap.size, 2, none⟩ = some (.int .i64 d) ∧ Below w.heap.size w w')) (by kernel_rfl) (⟨f0, f1, f2, k4x.drew⟩) (fun hHeld => ?_)
  generalize X.drew = D at *
  refine takeR (i := 0) (v := ?_) rfl (by kernel_rfl) (by kernel_rfl) (by kernel_rfl) (some 43) rfl (Or.inl ⟨by rfl, ?_⟩) (fun _ _ _ h => h) (by assumption) ?_
  rotate_left
  · intro w hSw; (try dsimp only at hSw); go_simp; (try with_reducible rfl)
  simp only [Act.put, List.setIfInBounds_toArray, List.set_cons_zero, List.set_cons_succ]
  refine takeR (i := 1) (v := ?_) rfl (by kernel_rfl) (by kernel_rfl) (by kernel_rfl) (some 44) rfl (Or.inl ⟨by rfl, ?_⟩) (fun _ _ _ h => h) (by assumption) ?_
  rotate_left
  · intro w hSw; (try dsimp only at hSw); go_simp; (try with_reducible rfl)
  simp only [Act.put, List.setIfInBounds_toArray, List.set_cons_zero, List.set_cons_succ]
  refine wpAnyH_ready (rs := [2]) (by kernel_rfl) (by simp) ?_
  refine AllReadyH.cons rfl (fun K hK => ?_) (AllReadyH.nil)
  go_simp
  refine hK.out _ _ (⟨(cell_fillK (by dsimp only; omega) _ _ _ _).trans hHeld.1, (cell_fillK (by dsimp only; omega) _ _ _ _).trans hHeld.2.1, (cell_fillK (by dsimp only; omega) _ _ _ _).trans hHeld.2.2.1, below_setk4 (g := w.heap.size) hHeld.2.2.2 (Nat.le_refl _) _ _ _ _⟩) (fun hHeld => ?_)
  clear hK K
  try simp only [Act.put, List.setIfInBounds_toArray, List.set_cons_zero, List.set_cons_succ]
  refine wpAnyH_ready (rs := [3]) (by kernel_rfl) (by simp) ?_
  refine AllReadyH.cons rfl (fun K hK => ?_) (AllReadyH.nil)
  go_simp
  refine hK.out _ _ (kW3_3 hHeld (by omega) (by dsimp only; omega) (by dsimp only; omega) (by dsimp only; omega)) (fun hHeld => ?_)
  clear hK K
  try simp only [Act.put, List.setIfInBounds_toArray, List.set_cons_zero, List.set_cons_succ]
  refine wpAnyH_done (by kernel_rfl) ?_ _
  go_wp2_with fail
  exact bodyPost_ret (v := .tuple #[.agg #[.int .i64 0, .int .i64 0, .int .i64 0, .slice none 0 0], .agg #[.bool true, .int .i64 c, .int .i64 d]]) (by simp [results, Tryz.results31, go_sem, u0, u1, u2, u3, u4, u5, u6]) rfl ⟨rfl, hHeld.2.2.2⟩

set_option maxRecDepth 100000 in
set_option maxHeartbeats 8000000 in
theorem gd_ok (ao : Option Addr) (cap : Nat) (l : List Int) (K : List BK) (nK : Nat) (w : World) (hB : Bytes w (.slice ao l.length cap) l) (h : 8 ≤ l.length) (hz : l.getD 3 0 = 0) (qc : ∀ w, Calls Tryz.prog 68 #[.agg #[.int .i64 (be2 l 0), .int .i64 (l.getD 2 0), .int .i64 (be4 l 4), .slice none 0 0]] w fun e w' => e = .returned (.agg #[.bool false, .int .i64 0, .int .i64 0]) ∧ Below w.heap.size w w') (hP : ∀ (v : Value) (W : World), Bytes W v (l.drop 8) → Calls Tryz.prog 69 #[v] W fun e w' => (∃ ka kc, e = .returned (.tuple #[.slice ka nK kc, .agg #[.bool false, .int .i64 0, .int .i64 0]]) ∧ ∃ P : List PB, P.map (·.1) = K ∧ BRow w' (W.heap.size + 1) (.slice ka nK kc) P) ∧ Below W.heap.size W w') :
    Calls Tryz.prog 31 #[.slice ao l.length cap] w fun e w' => (∃ ka kc, e = .returned (.tuple #[.agg #[.int .i64 (be2 l 0), .int .i64 (l.getD 2 0), .int .i64 (be4 l 4), .slice ka nK kc], .agg #[.bool false, .int .i64 0, .int .i64 0]]) ∧ BuckAt w' (.slice ka nK kc) K) ∧ Below w.heap.size w w' := by
  have R0 := hide_ ((AB.at0 w 50 [.int .i64 0, .int .i64 0, .int .i64 0, .slice none 0 0]).alloc (.cells #[.bool false, .int .i64 0, .int .i64 0] 44))
  have F0 := hide_ (AB.at1 w (.cells #[.int .i64 0, .int .i64 0, .int .i64 0, .slice none 0 0] 50) 44 [.bool false, .int .i64 0, .int .i64 0])
  have B0 := hide_ (below2 w (.cells #[.int .i64 0, .int .i64 0, .int .i64 0, .slice none 0 0] 50) (.cells #[.bool false, .int .i64 0, .int .i64 0] 44))
  have hm : l.length ≤ 9223372036854775807 := by obtain ⟨_, _, h1⟩ := Bytes.at hB; unfold maxLen at *; omega
  have h' : ¬ (l.length : Int) < 8 := by omega
  have qread : Hid (Calls Tryz.prog 67 #[.slice ao l.length cap, .slice (some ⟨w.heap.size + 1 + 1 + 1, 0, none⟩) 4 4] ((((w.alloc (.cells #[.int .i64 0, .int .i64 0, .int .i64 0, .slice none 0 0] 50)).alloc (.cells #[.bool false, .int .i64 0, .int .i64 0] 44)).alloc (.cells #[.int .i64 0, .int .i64 0, .int .i64 0, .slice none 0 0, .int .i64 0] 96)).alloc (.cells #[.pointer (some ⟨w.heap.size + 1 + 1, 0, none⟩), .pointer (some ⟨w.heap.size + 1 + 1, 1, none⟩), .pointer (some ⟨w.heap.size + 1 + 1, 4, none⟩), .pointer (some ⟨w.heap.size + 1 + 1, 2, none⟩)] 101)) fun e w' => e = .returned (.tuple #[]) ∧ AB w' (w.heap.size + 1 + 1) 96 [.int .i64 (be2 l 0), .int .i64 (l.getD 2 0), .int .i64 (be4 l 4), .slice none 0 0, .int .i64 (l.getD 3 0)] ∧ Below ((w.alloc (.cells #[.int .i64 0, .int .i64 0, .int .i64 0, .slice none 0 0] 50)).alloc (.cells #[.bool false, .int .i64 0, .int .i64 0] 44)).heap.size ((w.alloc (.cells #[.int .i64 0, .int .i64 0, .int .i64 0, .slice none 0 0] 50)).alloc (.cells #[.bool false, .int .i64 0, .int .i64 0] 44)) w') := hide_ (gread_any (.slice ao l.length cap) l (w.heap.size + 1 + 1) (w.heap.size + 1 + 1 + 1) _ _ _ _ _ ((w.alloc (.cells #[.int .i64 0, .int .i64 0, .int .i64 0, .slice none 0 0] 50)).alloc (.cells #[.bool false, .int .i64 0, .int .i64 0] 44)) ((((w.alloc (.cells #[.int .i64 0, .int .i64 0, .int .i64 0, .slice none 0 0] 50)).alloc (.cells #[.bool false, .int .i64 0, .int .i64 0] 44)).alloc (.cells #[.int .i64 0, .int .i64 0, .int .i64 0, .slice none 0 0, .int .i64 0] 96)).alloc (.cells #[.pointer (some ⟨w.heap.size + 1 + 1, 0, none⟩), .pointer (some ⟨w.heap.size + 1 + 1, 1, none⟩), .pointer (some ⟨w.heap.size + 1 + 1, 4, none⟩), .pointer (some ⟨w.heap.size + 1 + 1, 2, none⟩)] 101)) (hB.later B0.out) h (((below1 ((w.alloc (.cells #[.int .i64 0, .int .i64 0, .int .i64 0, .slice none 0 0] 50)).alloc (.cells #[.bool false, .int .i64 0, .int .i64 0] 44)) (.cells #[.int .i64 0, .int .i64 0, .int .i64 0, .slice none 0 0, .int .i64 0] 96)).alloc (by simp) _)) (by simp) (by omega) (by have := (AB.at0 ((w.alloc (.cells #[.int .i64 0, .int .i64 0, .int .i64 0, .slice none 0 0] 50)).alloc (.cells #[.bool false, .int .i64 0, .int .i64 0] 44)) 96 [.int .i64 0, .int .i64 0, .int .i64 0, .slice none 0 0, .int .i64 0]).alloc (.cells #[.pointer (some ⟨w.heap.size + 1 + 1, 0, none⟩), .pointer (some ⟨w.heap.size + 1 + 1, 1, none⟩), .pointer (some ⟨w.heap.size + 1 + 1, 4, none⟩), .pointer (some ⟨w.heap.size + 1 + 1, 2, none⟩)] 101); simpa using this) (by have := AB.at0 (((w.alloc (.cells #[.int .i64 0, .int .i64 0, .int .i64 0, .slice none 0 0] 50)).alloc (.cells #[.bool false, .int .i64 0, .int .i64 0] 44)).alloc (.cells #[.int .i64 0, .int .i64 0, .int .i64 0, .slice none 0 0, .int .i64 0] 96)) 101 [.pointer (some ⟨w.heap.size + 1 + 1, 0, none⟩), .pointer (some ⟨w.heap.size + 1 + 1, 1, none⟩), .pointer (some ⟨w.heap.size + 1 + 1, 4, none⟩), .pointer (some ⟨w.heap.size + 1 + 1, 2, none⟩)]; simpa using this))
  obtain ⟨ao3, -, sl3, b3⟩ := bytes_slice hB 8 h
  have sl3 : ∀ wx, (Instr.slice 25 (.slice ao l.length cap) (some (.int .i64 8)) none none).run Tryz.prog wx = .ok (.slice ao3 (l.length - 8) (cap - 8)) wx := sl3
  have qd := hide_ (fun W hW => hP _ W (b3.later (w' := W) hW))
  have qc := hide_ qc
  rw [hz] at qread
  clear hB h hz hP b3
  generalize be2 l 0 = y0 at *
  generalize l.getD 2 0 = y1 at *
  generalize be4 l 4 = y2 at *
  go_enter Tryz.func31, Tryz.ntmps31
  go_wp2_with (first | (go_at_call 67; refine qread.out.mono ?_; rintro e w1 ⟨rfl, C1, b1⟩; have k1 := hide_ (B0.out.trans (b1.mono (by simp; omega))); have R1 := hide_ (R0.out.later b1); have F1 := hide_ (F0.out.later b1); have C1 := hide_ C1; obtain ⟨c0, c1, c2, c3, c4, -⟩ := C1.out.k5; clear b1) | (go_at_call 68; refine (qc.out _).mono ?_; rintro e w2 ⟨rfl, b2⟩; have b2' := b2.trans ((below1 w2 (.cells #[.bool false, .int .i64 0, .int .i64 0] 44)).mono b2.size); have k2 := hide_ (k1.out.trans (b2'.mono k1.out.size)); have R2 := hide_ (R1.out.later b2'); have F2 := hide_ (F1.out.later b2'); have C2 := hide_ (C1.out.later b2'); obtain ⟨d0, d1, d2, d3, d4, -⟩ := C2.out.k5; obtain ⟨m0, m1, m2, -⟩ := (AB.at0 w2 44 [.bool false, .int .i64 0, .int .i64 0]).three; clear b2 b2') | (go_at_call 69; refine (qd.out _ k2.out).mono ?_; rintro e w3 ⟨⟨ka, kc, rfl, P, hPK, hR⟩, b3⟩; have HR3 := hide_ hR; have HPK := hide_ hPK; have b3' := b3.trans ((below1 w3 (.cells #[.bool false, .int .i64 0, .int .i64 0] 44)).mono b3.size); have k3 := hide_ (k2.out.trans (b3'.mono k2.out.size)); have R3 := hide_ (R2.out.later b3'); have F3 := hide_ (F2.out.later b3'); have C3 := hide_ (C2.out.later b3'); obtain ⟨m0, m1, m2, -⟩ := (AB.at0 w3 44 [.bool false, .int .i64 0, .int .i64 0]).three; obtain ⟨j0, j1, j2, j3, j4, i0, i1, i2, i3, i4⟩ := C3.out.k5; have C4 : Hid (AB ((w3.alloc (.cells #[.bool false, .int .i64 0, .int .i64 0] 44)).setCell ⟨w.heap.size + 1 + 1, 3, none⟩ (.slice ka nK kc)) (w.heap.size + 1 + 1) 96 [.int .i64 y0, .int .i64 y1, .int .i64 y2, .slice ka nK kc, .int .i64 0]) := hide_ (C3.out.set (j := 3) _); obtain ⟨q0, q1, q2, q3, q4, -⟩ := C4.out.k5; have R4 : AB ((w3.alloc (.cells #[.bool false, .int .i64 0, .int .i64 0] 44)).setCell ⟨w.heap.size + 1 + 1, 3, none⟩ (.slice ka nK kc)) w.heap.size 50 [.int .i64 0, .int .i64 0, .int .i64 0, .slice none 0 0] := R3.out.far _ (by omega); have F4 : AB ((w3.alloc (.cells #[.bool false, .int .i64 0, .int .i64 0] 44)).setCell ⟨w.heap.size + 1 + 1, 3, none⟩ (.slice ka nK kc)) (w.heap.size + 1) 44 [.bool false, .int .i64 0, .int .i64 0] := F3.out.far _ (by omega); have k4 : Below w.heap.size w ((w3.alloc (.cells #[.bool false, .int .i64 0, .int .i64 0] 44)).setCell ⟨w.heap.size + 1 + 1, 3, none⟩ (.slice ka nK kc)) := k3.out.setCell (p := ⟨w.heap.size + 1 + 1, 3, none⟩) (by simp; omega) _; obtain ⟨r0, r1, r2, r3, r4, r5, r6, r7⟩ := R4.k4; obtain ⟨s0, s1, s2, s3, s4, s5⟩ := (F4.fark4 (f := w.heap.size) (by omega) (.int .i64 y0) (.int .i64 y1) (.int .i64 y2) (.slice ka nK kc)).three; obtain ⟨u0, u1, u2, u3, -⟩ := ((R4.setk4 (.int .i64 y0) (.int .i64 y1) (.int .i64 y2) (.slice ka nK kc)).farx3 (f := (w.heap.size + 1)) (by omega) (.bool false) (.int .i64 0) (.int .i64 0)).k4; obtain ⟨u4, u5, u6, -⟩ := ((F4.fark4 (f := w.heap.size) (by omega) (.int .i64 y0) (.int .i64 y1) (.int .i64 y2) (.slice ka nK kc)).set3 (.bool false) (.int .i64 0) (.int .i64 0)).three; have bb := below_set3 (g := (w.heap.size + 1)) (below_setk4 (g := w.heap.size) k4 (Nat.le_refl _) (.int .i64 y0) (.int .i64 y1) (.int .i64 y2) (.slice ka nK kc)) (by omega) (.bool false) (.int .i64 0) (.int .i64 0); have hlt2 := C2.out.lt; clear b3 b3' hPK hR))
  refine bodyPost_ret (v := .tuple #[.agg #[.int .i64 y0, .int .i64 y1, .int .i64 y2, .slice ka nK kc], .agg #[.bool false, .int .i64 0, .int .i64 0]]) (by simp [results, Tryz.results31, go_sem, u0, u1, u2, u3, u4, u5, u6]) rfl ⟨⟨ka, kc, rfl, ?_⟩, bb⟩
  rw [← HPK.out]
  rw [World.size_alloc] at HR3 hlt2
  exact (((((((((HR3.out.later (below1 w3 _)).set (g := w.heap.size + 1 + 1) (by omega) _).set (g := w.heap.size) (by omega) _).set (g := w.heap.size) (by omega) _).set (g := w.heap.size) (by omega) _).set (g := w.heap.size) (by omega) _).set (g := w.heap.size + 1) (by omega) _).set (g := w.heap.size + 1) (by omega) _).set (g := w.heap.size + 1) (by omega) _).at_

end Go.Proofs.YthhijfphfcmniaaGreat

namespace Go.Proofs.YthhijfphfcmniaaGreat
open Go Go.RowKit
set_option linter.unusedVariables false
set_option linter.unusedSimpArgs false

theorem buck_formU {w : World} {v : Value} {L : List BK} (h : BuckAt w v L) : ∃ s c, v = .slice s L.length c := by
  obtain ⟨s, cap, rfl, -⟩ := h
  exact ⟨s, cap, rfl⟩
/-- the change that these bytes are, its buckets told by D -/
def gHead (l : List Int) : Prop := 8 ≤ l.length ∧ l.getD 3 0 = 0
def gOK (D : List Int → Value → Prop) (l : List Int) (K : List BK) : Prop := gHead l ∧ cR (be2 l 0) = true ∧ kR (l.getD 2 0) = true ∧ (l.drop 8).length ≤ 60000 ∧ BOk D (l.drop 8) K ∧ K.length ≤ 100
/-- the fault that these bytes are -/
def gBad (D : List Int → Value → Prop) (l : List Int) (c d : Int) : Prop :=
  (¬ gHead l ∧ c = 1 ∧ d = 6) ∨ (gHead l ∧ ((cR (be2 l 0) = false ∧ c = 6 ∧ d = 11) ∨ (cR (be2 l 0) = true ∧ ((kR (l.getD 2 0) = false ∧ c = 6 ∧ d = 10) ∨ (kR (l.getD 2 0) = true ∧
    ((60000 < (l.drop 8).length ∧ c = 6 ∧ d = 12) ∨ ((l.drop 8).length ≤ 60000 ∧ (BBad D (l.drop 8) c d ∨ ∃ K, BOk D (l.drop 8) K ∧ 100 < K.length ∧ c = 6 ∧ d = 4)))))))) 
theorem g_all (l : List Int) (hl : isB l) : (∃ K, gOK Ans l K ∧ gOK RAns l K) ∨ ∃ c d, gBad Ans l c d ∧ gBad RAns l c d := by
  by_cases h1 : gHead l
  · cases h2 : cR (be2 l 0)
    · exact .inr ⟨6, 11, .inr ⟨h1, .inl ⟨h2, rfl, rfl⟩⟩, .inr ⟨h1, .inl ⟨h2, rfl, rfl⟩⟩⟩
    · cases h3 : kR (l.getD 2 0)
      · exact .inr ⟨6, 10, .inr ⟨h1, .inr ⟨h2, .inl ⟨h3, rfl, rfl⟩⟩⟩, .inr ⟨h1, .inr ⟨h2, .inl ⟨h3, rfl, rfl⟩⟩⟩⟩
      · by_cases h4 : (l.drop 8).length ≤ 60000
        · rcases bucks_all _ (l.drop 8) (Nat.le_refl _) (isB_dropK hl 8) with ⟨K, k1, k2⟩ | ⟨c, d, k1, k2⟩
          · by_cases h5 : K.length ≤ 100
            · exact .inl ⟨K, ⟨h1, h2, h3, h4, k1, h5⟩, ⟨h1, h2, h3, h4, k2, h5⟩⟩
            · exact .inr ⟨6, 4, .inr ⟨h1, .inr ⟨h2, .inr ⟨h3, .inr ⟨h4, .inr ⟨K, k1, by omega, rfl, rfl⟩⟩⟩⟩⟩, .inr ⟨h1, .inr ⟨h2, .inr ⟨h3, .inr ⟨h4, .inr ⟨K, k2, by omega, rfl, rfl⟩⟩⟩⟩⟩⟩
          · exact .inr ⟨c, d, .inr ⟨h1, .inr ⟨h2, .inr ⟨h3, .inr ⟨h4, .inl k1⟩⟩⟩⟩, .inr ⟨h1, .inr ⟨h2, .inr ⟨h3, .inr ⟨h4, .inl k2⟩⟩⟩⟩⟩
        · exact .inr ⟨6, 12, .inr ⟨h1, .inr ⟨h2, .inr ⟨h3, .inl ⟨by omega, rfl, rfl⟩⟩⟩⟩, .inr ⟨h1, .inr ⟨h2, .inr ⟨h3, .inl ⟨by omega, rfl, rfl⟩⟩⟩⟩⟩
  · exact .inr ⟨1, 6, .inl ⟨h1, rfl, rfl⟩, .inl ⟨h1, rfl, rfl⟩⟩
theorem gdec_ok (v : Value) (l : List Int) (K : List BK) (w : World) (hB : Bytes w v l) (h : gOK Ans l K) :
    Calls Tryz.prog 31 #[v] w fun e w' => (∃ ka kc, e = .returned (.tuple #[.agg #[.int .i64 (be2 l 0), .int .i64 (l.getD 2 0), .int .i64 (be4 l 4), .slice ka K.length kc], .agg #[.bool false, .int .i64 0, .int .i64 0]]) ∧ BuckAt w' (.slice ka K.length kc) K) ∧ Below w.heap.size w w' := by
  obtain ⟨⟨h1, h2⟩, h3, h4, h5, h6, h7⟩ := h
  obtain ⟨ao, cap, rfl⟩ := hB.short
  refine gd_ok ao cap l K K.length w hB h1 h2 (fun w => gchk_ok _ _ _ none 0 0 w h3 h4) (fun v W hv => (bd_okS v _ K W hv h5 h6 h7).mono ?_)
  rintro e w' ⟨⟨r, rfl, P, hP, hR⟩, hb⟩
  have hat := hR.at_
  rw [hP] at hat
  obtain ⟨s, c, rfl⟩ := buck_formU hat
  exact ⟨⟨s, c, rfl, P, hP, hR⟩, hb⟩
theorem gdec_bad (v : Value) (l : List Int) (c d : Int) (w : World) (hB : Bytes w v l) (h : gBad Ans l c d) :
    Calls Tryz.prog 31 #[v] w fun e w' => e = .returned (.tuple #[.agg #[.int .i64 0, .int .i64 0, .int .i64 0, .slice none 0 0], .agg #[.bool true, .int .i64 c, .int .i64 d]]) ∧ Below w.heap.size w w' := by
  obtain ⟨ao, cap, rfl⟩ := hB.short
  rcases h with ⟨h, rfl, rfl⟩ | ⟨⟨h1, h2⟩, h⟩
  · by_cases h8 : l.length < 8
    · exact gd_short ao cap l w hB h8
    · exact gd_nz ao cap l w hB (by omega) (fun e => h ⟨by omega, e⟩)
  · rcases h with ⟨h3, rfl, rfl⟩ | ⟨h3, h⟩
    · exact gd_chk ao cap l 11 w hB h1 h2 (fun w => gchk_c _ _ _ none 0 0 w h3)
    · rcases h with ⟨h4, rfl, rfl⟩ | ⟨h4, h⟩
      · exact gd_chk ao cap l 10 w hB h1 h2 (fun w => gchk_k _ _ _ none 0 0 w h3 h4)
      · refine gd_bad ao cap l c d w hB h1 h2 (fun w => gchk_ok _ _ _ none 0 0 w h3 h4) (fun v W hv => ?_)
        rcases h with ⟨h5, rfl, rfl⟩ | ⟨h5, h | ⟨K, h6, h7, rfl, rfl⟩⟩
        · exact bd_big v _ W hv h5
        · exact bd_bad v _ c d W hv h5 h
        · exact bd_many v _ K W hv h5 h6 h7
theorem spl1_eq (n : Int) : spl n 1 = [n % 256] := by simp [spl]
theorem gE_form (c k i : Int) (L : List BK) : gE c k i L = c / 256 % 256 :: c % 256 :: k % 256 :: 0 :: i / 16777216 :: i / 65536 % 256 :: i / 256 % 256 :: i % 256 :: encK L := by
  unfold gE p4F p3F p2F p1F
  rw [spl2_eq, spl1_eq, spl1_eq, spl4_eq]
  rfl
theorem gok_enc {c k i : Int} {L : List BK} (hF : BFit L) (h : gR c k i L = true) : gOK Ans (gE c k i L) L ∧ be2 (gE c k i L) 0 = c ∧ (gE c k i L).getD 2 0 = k ∧ be4 (gE c k i L) 4 = i := by
  obtain ⟨h1, h2, h3, h4⟩ := gR_parts h
  obtain ⟨h5, h6, h7⟩ := gB_parts h4
  have r1 : 0 ≤ c ∧ c ≤ 2 := by unfold cR at h1; simpa using h1
  have r2 : 0 ≤ k ∧ k ≤ 3 := by unfold kR at h2; simpa using h2
  have r3 := rightB_4 h3
  have e1 : be2 (gE c k i L) 0 = c := by rw [gE_form, be2_at0]; omega
  have e2 : (gE c k i L).getD 2 0 = k := by
    rw [gE_form]
    show k % 256 = k
    omega
  have e3 : be4 (gE c k i L) 4 = i := by rw [gE_form, be4_at4]; omega
  have e4 : (gE c k i L).drop 8 = encK L := by rw [gE_form]; rfl
  have e5 : (gE c k i L).getD 3 0 = 0 := by rw [gE_form]; rfl
  refine ⟨⟨⟨by rw [gE_len]; omega, e5⟩, by rw [e1]; exact h1, by rw [e2]; exact h2, by rw [e4]; exact h7, by rw [e4]; exact bok_enc L hF h6, h5⟩, e1, e2, e3⟩
end Go.Proofs.YthhijfphfcmniaaGreat

namespace Go.Proofs.YthhijfphfcmniaaGreat
open Go Go.RowKit
set_option linter.unusedVariables false
set_option linter.unusedSimpArgs false

def L18 : List BK := [(0, 2, 0, [])]
def B18 : List Int := gE 1 3 9 L18
theorem l18_fit : BFit L18 := by
  intro o ho
  simp only [L18, List.mem_cons, List.not_mem_nil, or_false] at ho
  subst ho
  intro k p x q y f m a b c d hi
  cases hi
theorem l18_right : gR 1 3 9 L18 = true := by decide +kernel
theorem b18_len : B18.length = 24 := by decide +kernel
theorem l18_row (w : World) : BRow (w.alloc (.cells #[.int .i64 0, .int .i64 2, .int .i64 0, .slice none 0 0] 87)) w.heap.size (.slice (some ⟨w.heap.size, 0, none⟩) 1 1) [((0, 2, 0, []), .slice none 0 0)] := by
  refine ⟨⟨rfl, .inr ⟨w.heap.size, 1, _, rfl, Nat.le_refl _, heap_alloc_last w _, Nat.le_refl _, by decide, rfl, rfl⟩⟩, fun p hp => ?_⟩
  simp only [List.mem_cons, List.not_mem_nil, or_false] at hp
  subst hp
  exact World.ownsRow_nil _ _ _ _
theorem bad18 : gBad Ans [0, 5, 0, 0, 0, 0, 0, 0] 6 11 := .inr ⟨⟨by decide, rfl⟩, .inl ⟨by decide, rfl, rfl⟩⟩
theorem same18 : sameG 1 3 9 L18 1 3 9 L18 = true := by
  unfold sameG
  rw [sameBL_true rfl]
  rfl
set_option maxRecDepth 100000 in
set_option maxHeartbeats 8000000 in
theorem awake18_any (w : World) :
    Calls Tryz.prog 24 #[] w fun e w' => e = .returned (.bool true) ∧ Below w.heap.size w w' := by
  have BB := hide_ (below2 w (.cells #[.int .i64 0, .int .i64 2, .int .i64 0, .slice none 0 0] 87) (.cells #[.int .i64 1, .int .i64 3, .int .i64 9, .slice (some ⟨w.heap.size, 0, none⟩) 1 1] 50))
  have HA : Hid (BuckAt ((w.alloc (.cells #[.int .i64 0, .int .i64 2, .int .i64 0, .slice none 0 0] 87)).alloc (.cells #[.int .i64 1, .int .i64 3, .int .i64 9, .slice (some ⟨w.heap.size, 0, none⟩) 1 1] 50)) (.slice (some ⟨w.heap.size, 0, none⟩) 1 1) L18) := hide_ ((l18_row w).later (below1 _ (.cells #[.int .i64 1, .int .i64 3, .int .i64 9, .slice (some ⟨w.heap.size, 0, none⟩) 1 1] 50))).at_
  have A1 := hide_ (AB.at1 w (.cells #[.int .i64 0, .int .i64 2, .int .i64 0, .slice none 0 0] 87) 50 [.int .i64 1, .int .i64 3, .int .i64 9, .slice (some ⟨w.heap.size, 0, none⟩) 1 1])
  obtain ⟨x0, x1, x2, x3, -⟩ := A1.out.k4
  have qe := hide_ (genc_yes 1 3 9 _ _ _ L18 ((w.alloc (.cells #[.int .i64 0, .int .i64 2, .int .i64 0, .slice none 0 0] 87)).alloc (.cells #[.int .i64 1, .int .i64 3, .int .i64 9, .slice (some ⟨w.heap.size, 0, none⟩) 1 1] 50)) HA.out l18_fit l18_right)
  obtain ⟨hok, he1, he2, he3⟩ := gok_enc l18_fit l18_right
  have qd : Hid (∀ (v : Value) (W : World), Bytes W v B18 → Calls Tryz.prog 31 #[v] W fun e w' => (∃ ka kc, e = .returned (.tuple #[.agg #[.int .i64 1, .int .i64 3, .int .i64 9, .slice ka 1 kc], .agg #[.bool false, .int .i64 0, .int .i64 0]]) ∧ BuckAt w' (.slice ka 1 kc) L18) ∧ Below W.heap.size W w') := hide_ (fun v W h => by
    have := gdec_ok v B18 L18 W h hok
    rw [show be2 B18 0 = 1 from he1, show B18.getD 2 0 = 3 from he2, show be4 B18 4 = 9 from he3] at this
    exact this)
  have qb := hide_ (fun (v : Value) (W : World) (h : Bytes W v [0, 5, 0, 0, 0, 0, 0, 0]) => gdec_bad v _ 6 11 W h bad18)
  have qs := hide_ (fun (su : Option Addr) (cu : Nat) (s2 : Option Addr) (c2 : Nat) (W : World) h1 h2 => gsame_any 1 3 9 su 1 cu L18 1 3 9 s2 1 c2 L18 W h1 h2)
  rw [same18] at qs
  have qr := hide_ (fun (su : Option Addr) (cu : Nat) (W : World) h => gright_yes 1 3 9 su 1 cu L18 W h l18_fit l18_right)
  have LN := hide_ b18_len
  clear hok he1 he2 he3
  go_enter Tryz.func24, Tryz.ntmps24
  go_wp2_with (first
    | (go_at_call 25; refine qe.out.mono ?_; rintro e w2 ⟨⟨r, rfl, o2⟩, b2⟩; have hb2 : Bytes w2 r B18 := o2.bytes; obtain ⟨ra, rc, re⟩ := hb2.short; rw [LN.out] at re; subst re; have HB2 := hide_ hb2; have K2 := hide_ (BB.out.trans (b2.mono BB.out.size)); have H2 := hide_ (HA.out.later b2); have A2 := hide_ (A1.out.later b2); clear b2 o2 hb2)
    | (go_at_call_of 31 (Value.slice ra 24 rc); refine (qd.out _ _ HB2.out).mono ?_; rintro e w3 ⟨⟨ka, kc, rfl, o3⟩, b3⟩; have jx := hide_ (b3.trans ((below3 w3 (.cells #[.int .i64 1, .int .i64 3, .int .i64 9, .slice ka 1 kc] 50) (.cells #[.bool false, .int .i64 0, .int .i64 0] 44) (.cells #[.int .u8 0, .int .u8 5, .int .u8 0, .int .u8 0, .int .u8 0, .int .u8 0, .int .u8 0, .int .u8 0] 5)).mono b3.size)); have K3 := hide_ (K2.out.trans (jx.out.mono K2.out.size)); have H3 := hide_ (H2.out.later jx.out); have A3 := hide_ (A2.out.later jx.out); have O3 := hide_ (o3.later (below3 w3 (.cells #[.int .i64 1, .int .i64 3, .int .i64 9, .slice ka 1 kc] 50) (.cells #[.bool false, .int .i64 0, .int .i64 0] 44) (.cells #[.int .u8 0, .int .u8 5, .int .u8 0, .int .u8 0, .int .u8 0, .int .u8 0, .int .u8 0, .int .u8 0] 5))); have N3 := hide_ (((AB.at0 w3 50 [.int .i64 1, .int .i64 3, .int .i64 9, .slice ka 1 kc]).alloc (.cells #[.bool false, .int .i64 0, .int .i64 0] 44)).alloc (.cells #[.int .u8 0, .int .u8 5, .int .u8 0, .int .u8 0, .int .u8 0, .int .u8 0, .int .u8 0, .int .u8 0] 5)); have F3 := hide_ ((AB.at1 w3 (.cells #[.int .i64 1, .int .i64 3, .int .i64 9, .slice ka 1 kc] 50) 44 [.bool false, .int .i64 0, .int .i64 0]).alloc (.cells #[.int .u8 0, .int .u8 5, .int .u8 0, .int .u8 0, .int .u8 0, .int .u8 0, .int .u8 0, .int .u8 0] 5)); have X3B : Hid (Bytes (((w3.alloc (.cells #[.int .i64 1, .int .i64 3, .int .i64 9, .slice ka 1 kc] 50)).alloc (.cells #[.bool false, .int .i64 0, .int .i64 0] 44)).alloc (.cells #[.int .u8 0, .int .u8 5, .int .u8 0, .int .u8 0, .int .u8 0, .int .u8 0, .int .u8 0, .int .u8 0] 5)) (.slice (some ⟨w3.heap.size + 1 + 1, 0, none⟩) 8 8) [0, 5, 0, 0, 0, 0, 0, 0]) := hide_ (by have := Bytes.lit ((w3.alloc (.cells #[.int .i64 1, .int .i64 3, .int .i64 9, .slice ka 1 kc] 50)).alloc (.cells #[.bool false, .int .i64 0, .int .i64 0] 44)) [0, 5, 0, 0, 0, 0, 0, 0] 5 (fun z hz => by simp at hz; omega) (by decide); simpa [u8s] using this); clear o3 b3)
    | (go_at_call 31; refine (qb.out _ _ X3B.out).mono ?_; rintro e w4 ⟨rfl, b4⟩; have j4 := hide_ (b4.trans ((below2 w4 (.cells #[.int .i64 0, .int .i64 0, .int .i64 0, .slice none 0 0] 50) (.cells #[.bool true, .int .i64 6, .int .i64 11] 44)).mono b4.size)); obtain ⟨g0, g1, g2, -⟩ := (AB.at1 w4 (.cells #[.int .i64 0, .int .i64 0, .int .i64 0, .slice none 0 0] 50) 44 [.bool true, .int .i64 6, .int .i64 11]).three; have A4 := hide_ (A3.out.later j4.out); obtain ⟨y0, y1, y2, y3, -⟩ := A4.out.k4; have N4 := hide_ (N3.out.later j4.out); obtain ⟨z0, z1, z2, z3, -⟩ := N4.out.k4; have Q4 := F3.out.later j4.out; obtain ⟨f0, f1, f2, -⟩ := Q4.three; have K4 := hide_ (K3.out.trans (j4.out.mono K3.out.size)); have H4 := hide_ (H3.out.later j4.out); have O4 := hide_ (O3.out.later j4.out); clear Q4 b4)
    | (go_at_call 29; refine (qs.out _ _ _ _ _ H4.out O4.out).mono ?_; rintro e w5 ⟨rfl, b5⟩; have K5 := hide_ (K4.out.trans (b5.mono K4.out.size)); have A5 := A4.out.later b5; obtain ⟨y0, y1, y2, y3, -⟩ := A5.k4; have H5 := hide_ (H4.out.later b5); have g0 := cell_later b5 g0; have g1 := cell_later b5 g1; have g2 := cell_later b5 g2; clear b5 A5)
    | (go_at_call 27; refine (qr.out _ _ _ H5.out).mono ?_; rintro e w6 ⟨rfl, b6⟩; have K6 := hide_ (K5.out.trans (b6.mono K5.out.size)); have g0 := cell_later b6 g0; have g1 := cell_later b6 g1; have g2 := cell_later b6 g2; clear b6))
  go_ret
  exact ⟨rfl, K6.out⟩

end Go.Proofs.YthhijfphfcmniaaGreat

