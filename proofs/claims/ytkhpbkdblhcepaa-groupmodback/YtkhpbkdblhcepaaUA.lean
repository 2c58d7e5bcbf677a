import Derived.Test.YtkhpbkdblhcepaaKN
import Derived.Test.YtkhpbkdblhcepaaOz
import Derived.Deep.RegionHeld3
import Derived.Deep.RegionWith
import Derived.Deep.MidRow
import Derived.Deep.Cut
import Derived.Laws.StructEq
import Derived.ChangeKeysEq
namespace Go.Proofs.Ytkhpbkdblhcepaa
open Go Go.RowKit
set_option linter.unusedVariables false
set_option linter.unusedSimpArgs false

set_option maxRecDepth 100000 in
set_option maxHeartbeats 8000000 in
theorem grefuse_any (k c : Int) (w : World) : Calls Try.prog 66 #[.int .i64 k, .int .i64 c] w fun e w' => e = .returned (.agg #[.bool true, .int .i64 k, .int .i64 c]) ∧ Below w.heap.size w w' := by
  go_enter Try.func66, Try.ntmps66
  go_wp2
  exact bodyPost_ret (v := .agg #[.bool true, .int .i64 k, .int .i64 c]) (by simp [results, Try.results66, go_sem]) rfl ⟨rfl, below1 _ _⟩

set_option maxRecDepth 100000 in
set_option maxHeartbeats 8000000 in
theorem gsizes_any (w : World) : Calls Try.prog 106 #[] w fun e w' => e = .returned (.agg #[.int .i64 2, .int .i64 1, .int .i64 1, .int .i64 4]) ∧ Below w.heap.size w w' := by
  go_enter Try.func106, Try.ntmps106
  go_wp2
  exact bodyPost_ret (v := .agg #[.int .i64 2, .int .i64 1, .int .i64 1, .int .i64 4]) (by simp [results, Try.results106, go_sem]) rfl ⟨rfl, below1 _ _⟩

set_option maxRecDepth 100000 in
set_option maxHeartbeats 8000000 in
theorem gnum_any (c k i o : Int) (su : Option Addr) (n cu : Nat) (w : World) : Calls Try.prog 70 #[.agg #[.int .i64 c, .int .i64 k, .int .i64 i, .slice su n cu, .int .i64 o]] w fun e w' => e = .returned (.agg #[.int .i64 c, .int .i64 k, .int .i64 o, .int .i64 i]) ∧ Below w.heap.size w w' := by
  go_enter Try.func70, Try.ntmps70
  go_wp2
  exact bodyPost_ret (v := .agg #[.int .i64 c, .int .i64 k, .int .i64 o, .int .i64 i]) (by simp [results, Try.results70, go_sem]) rfl ⟨rfl, by go_grown⟩

/-- Command, Kind: what a change may have -/
def cR (c : Int) : Bool := decide (0 ≤ c) && decide (c ≤ 2)
def kR (k : Int) : Bool := decide (0 ≤ k) && decide (k ≤ 3)
set_option maxRecDepth 100000 in
set_option maxHeartbeats 8000000 in
theorem gchk_c (c k i : Int) (su : Option Addr) (n cu : Nat) (w : World) (h : cR c = false) : Calls Try.prog 68 #[.agg #[.int .i64 c, .int .i64 k, .int .i64 i, .slice su n cu]] w fun e w' => e = .returned (.agg #[.bool true, .int .i64 6, .int .i64 11]) ∧ Below w.heap.size w w' := by
  have hc : c < 0 ∨ (¬ c < 0 ∧ 2 < c) := by
    unfold cR at h
    simp at h
    omega
  clear h
  rcases hc with h1 | ⟨h1, h2⟩
  all_goals
    have A0 := hide_ (AB.at1 w (.cells #[.int .i64 c, .int .i64 k, .int .i64 i, .slice su n cu] 55) 34 [.bool false, .int .i64 0, .int .i64 0])
    have B0 := hide_ (below2 w (.cells #[.int .i64 c, .int .i64 k, .int .i64 i, .slice su n cu] 55) (.cells #[.bool false, .int .i64 0, .int .i64 0] 34))
    go_enter Try.func68, Try.ntmps68
    go_wp2_with (go_at_call 66; refine (grefuse_any _ _ _).mono ?_; rintro e w1 ⟨rfl, b1⟩; have A1 := hide_ (A0.out.later b1); obtain ⟨f0, f1, f2, g0, g1, g2⟩ := A1.out.three; have k1 := hide_ (B0.out.trans (b1.mono B0.out.size)); clear b1)
    exact bodyPost_ret (v := .agg #[.bool true, .int .i64 6, .int .i64 11]) (by simp [results, Try.results68, go_sem, *]) rfl ⟨rfl, ((k1.out.setCell (p := ⟨w.heap.size + 1, 0, none⟩) (by simp) _).setCell (p := ⟨w.heap.size + 1, 1, none⟩) (by simp) _).setCell (p := ⟨w.heap.size + 1, 2, none⟩) (by simp) _⟩

set_option maxRecDepth 100000 in
set_option maxHeartbeats 8000000 in
theorem gchk_k (c k i : Int) (su : Option Addr) (n cu : Nat) (w : World) (hc : cR c = true) (h : kR k = false) : Calls Try.prog 68 #[.agg #[.int .i64 c, .int .i64 k, .int .i64 i, .slice su n cu]] w fun e w' => e = .returned (.agg #[.bool true, .int .i64 6, .int .i64 10]) ∧ Below w.heap.size w w' := by
  have h1 : ¬ c < 0 := by unfold cR at hc; simp at hc; omega
  have h2 : ¬ 2 < c := by unfold cR at hc; simp at hc; omega
  have hk : k < 0 ∨ (¬ k < 0 ∧ 3 < k) := by
    unfold kR at h
    simp at h
    omega
  clear h hc
  rcases hk with h3 | ⟨h3, h4⟩
  all_goals
    have A0 := hide_ (AB.at1 w (.cells #[.int .i64 c, .int .i64 k, .int .i64 i, .slice su n cu] 55) 34 [.bool false, .int .i64 0, .int .i64 0])
    have B0 := hide_ (below2 w (.cells #[.int .i64 c, .int .i64 k, .int .i64 i, .slice su n cu] 55) (.cells #[.bool false, .int .i64 0, .int .i64 0] 34))
    go_enter Try.func68, Try.ntmps68
    go_wp2_with (go_at_call 66; refine (grefuse_any _ _ _).mono ?_; rintro e w1 ⟨rfl, b1⟩; have A1 := hide_ (A0.out.later b1); obtain ⟨f0, f1, f2, g0, g1, g2⟩ := A1.out.three; have k1 := hide_ (B0.out.trans (b1.mono B0.out.size)); clear b1)
    exact bodyPost_ret (v := .agg #[.bool true, .int .i64 6, .int .i64 10]) (by simp [results, Try.results68, go_sem, *]) rfl ⟨rfl, ((k1.out.setCell (p := ⟨w.heap.size + 1, 0, none⟩) (by simp) _).setCell (p := ⟨w.heap.size + 1, 1, none⟩) (by simp) _).setCell (p := ⟨w.heap.size + 1, 2, none⟩) (by simp) _⟩

set_option maxRecDepth 100000 in
set_option maxHeartbeats 8000000 in
theorem gchk_ok (c k i : Int) (su : Option Addr) (n cu : Nat) (w : World) (hc : cR c = true) (h : kR k = true) : Calls Try.prog 68 #[.agg #[.int .i64 c, .int .i64 k, .int .i64 i, .slice su n cu]] w fun e w' => e = .returned (.agg #[.bool false, .int .i64 0, .int .i64 0]) ∧ Below w.heap.size w w' := by
  have h1 : ¬ c < 0 := by unfold cR at hc; simp at hc; omega
  have h2 : ¬ 2 < c := by unfold cR at hc; simp at hc; omega
  have h3 : ¬ k < 0 := by unfold kR at h; simp at h; omega
  have h4 : ¬ 3 < k := by unfold kR at h; simp at h; omega
  clear h hc
  all_goals
    have A0 := hide_ (AB.at1 w (.cells #[.int .i64 c, .int .i64 k, .int .i64 i, .slice su n cu] 55) 34 [.bool false, .int .i64 0, .int .i64 0])
    have B0 := hide_ (below2 w (.cells #[.int .i64 c, .int .i64 k, .int .i64 i, .slice su n cu] 55) (.cells #[.bool false, .int .i64 0, .int .i64 0] 34))
    go_enter Try.func68, Try.ntmps68
    go_wp2_with (go_at_call 66; refine (grefuse_any _ _ _).mono ?_; rintro e w1 ⟨rfl, b1⟩; have A1 := hide_ (A0.out.later b1); obtain ⟨f0, f1, f2, g0, g1, g2⟩ := A1.out.three; have k1 := hide_ (B0.out.trans (b1.mono B0.out.size)); clear b1)
    exact bodyPost_ret (v := .agg #[.bool false, .int .i64 0, .int .i64 0]) (by simp [results, Try.results68, go_sem, *]) rfl ⟨rfl, B0.out⟩

end Go.Proofs.Ytkhpbkdblhcepaa

namespace Go.Proofs.Ytkhpbkdblhcepaa
open Go Go.RowKit
set_option linter.unusedVariables false
set_option linter.unusedSimpArgs false

theorem gfld (x y z : Value) (w : World) : (Instr.field 34 (.agg #[x, y, z]) 0).run Try.prog w = .ok x w := by kernel_rfl
theorem gix0 (w : World) : (Instr.index 112 (.agg #[.int .i64 2, .int .i64 1, .int .i64 1, .int .i64 4]) (.int .i64 0)).run Try.prog w = .ok (.int .i64 2) w := by kernel_rfl
theorem gix1 (w : World) : (Instr.index 112 (.agg #[.int .i64 2, .int .i64 1, .int .i64 1, .int .i64 4]) (.int .i64 1)).run Try.prog w = .ok (.int .i64 1) w := by kernel_rfl
theorem gix2 (w : World) : (Instr.index 112 (.agg #[.int .i64 2, .int .i64 1, .int .i64 1, .int .i64 4]) (.int .i64 2)).run Try.prog w = .ok (.int .i64 1) w := by kernel_rfl
theorem gix3 (w : World) : (Instr.index 112 (.agg #[.int .i64 2, .int .i64 1, .int .i64 1, .int .i64 4]) (.int .i64 3)).run Try.prog w = .ok (.int .i64 4) w := by kernel_rfl
/-- may this change be -/
def gN (c k i : Int) : Bool := cR c && (kR k && rightB i 4)
def gB (L : List BK) : Bool := decide (L.length ≤ 100) && (L.all bkR && decide ((encK L).length ≤ 60000))
def gR (c k i : Int) (L : List BK) : Bool := gN c k i && gB L
def p1F (c : Int) : List Int := [] ++ spl c 2
def p2F (c k : Int) : List Int := p1F c ++ spl k 1
def p3F (c k : Int) : List Int := p2F c k ++ spl 0 1
def p4F (c k i : Int) : List Int := p3F c k ++ spl i 4
/-- its bytes -/
def gE (c k i : Int) (L : List BK) : List Int := p4F c k i ++ encK L
def preF (c k i : Int) : Nat → List Int
  | 0 => []
  | 1 => p1F c
  | 2 => p2F c k
  | 3 => p3F c k
  | _ => p4F c k i
theorem spl_lenG (n s : Int) : (spl n s).length = if s = 1 then 1 else if s = 2 then 2 else 4 := by
  by_cases h1 : s = 1
  · simp [spl, h1]
  · by_cases h2 : s = 2 <;> simp [spl, h1, h2]
theorem p4F_len (c k i : Int) : (p4F c k i).length = 8 := by unfold p4F p3F p2F p1F; simp [spl_lenG]
theorem gE_len (c k i : Int) (L : List BK) : (gE c k i L).length = 8 + (encK L).length := by unfold gE; rw [List.length_append, p4F_len]
theorem gB_ben {L : List BK} : bencR L (if gB L then encK L else []) (if gB L then 0 else 1) := by
  unfold gB bencR
  by_cases h1 : L.length ≤ 100 <;> by_cases h2 : L.all bkR = true <;> by_cases h3 : (encK L).length ≤ 60000 <;> simp [h1, h2, h3]
set_option maxRecDepth 100000 in
set_option maxHeartbeats 8000000 in
theorem gspell_c (c k i : Int) (su : Option Addr) (n cu : Nat) (w : World) (h : cR c = false) :
    Calls Try.prog 65 #[.agg #[.int .i64 c, .int .i64 k, .int .i64 i, .slice su n cu]] w fun e w' => e = .returned (.tuple #[.slice none 0 0, .bool false]) ∧ Below w.heap.size w w' := by
  have gf := fun x y z w => gfld x y z w
  have A0 := hide_ (AB.at0 w 55 [.int .i64 c, .int .i64 k, .int .i64 i, .slice su n cu])
  have B0 := hide_ (below1 w (.cells #[.int .i64 c, .int .i64 k, .int .i64 i, .slice su n cu] 55))
  obtain ⟨x0, x1, x2, x3, -⟩ := A0.out.k4
  have qc := hide_ (fun w => gchk_c c k i su n cu w h)
  clear h
  go_enter Try.func65, Try.ntmps65
  go_wp2_with (first | (go_at_call 68; refine (qc.out _).mono ?_; rintro e w1 ⟨rfl, b1⟩; have k1 := hide_ (B0.out.trans (b1.mono B0.out.size)); have A1 := hide_ (A0.out.later b1); obtain ⟨y0, y1, y2, y3, -⟩ := A1.out.k4; clear b1))
  go_ret2
  exact ⟨by first | rfl | simp, k1.out⟩

set_option maxRecDepth 100000 in
set_option maxHeartbeats 8000000 in
theorem gspell_k (c k i : Int) (su : Option Addr) (n cu : Nat) (w : World) (hc : cR c = true) (h : kR k = false) :
    Calls Try.prog 65 #[.agg #[.int .i64 c, .int .i64 k, .int .i64 i, .slice su n cu]] w fun e w' => e = .returned (.tuple #[.slice none 0 0, .bool false]) ∧ Below w.heap.size w w' := by
  have gf := fun x y z w => gfld x y z w
  have A0 := hide_ (AB.at0 w 55 [.int .i64 c, .int .i64 k, .int .i64 i, .slice su n cu])
  have B0 := hide_ (below1 w (.cells #[.int .i64 c, .int .i64 k, .int .i64 i, .slice su n cu] 55))
  obtain ⟨x0, x1, x2, x3, -⟩ := A0.out.k4
  have qc := hide_ (fun w => gchk_k c k i su n cu w hc h)
  clear h hc
  go_enter Try.func65, Try.ntmps65
  go_wp2_with (first | (go_at_call 68; refine (qc.out _).mono ?_; rintro e w1 ⟨rfl, b1⟩; have k1 := hide_ (B0.out.trans (b1.mono B0.out.size)); have A1 := hide_ (A0.out.later b1); obtain ⟨y0, y1, y2, y3, -⟩ := A1.out.k4; clear b1))
  go_ret2
  exact ⟨by first | rfl | simp, k1.out⟩

set_option maxRecDepth 100000 in
set_option maxHeartbeats 8000000 in
theorem gspell_i (c k i : Int) (su : Option Addr) (n cu : Nat) (w : World) (hc : cR c = true) (hk : kR k = true) (h : rightB i 4 = false) :
    Calls Try.prog 65 #[.agg #[.int .i64 c, .int .i64 k, .int .i64 i, .slice su n cu]] w fun e w' => e = .returned (.tuple #[.slice none 0 0, .bool false]) ∧ Below w.heap.size w w' := by
  have gf := fun x y z w => gfld x y z w
  have A0 := hide_ (AB.at0 w 55 [.int .i64 c, .int .i64 k, .int .i64 i, .slice su n cu])
  have B0 := hide_ (below1 w (.cells #[.int .i64 c, .int .i64 k, .int .i64 i, .slice su n cu] 55))
  obtain ⟨x0, x1, x2, x3, -⟩ := A0.out.k4
  have qc := hide_ (fun w => gchk_ok c k i su n cu w hc hk)
  clear hc hk
  go_enter Try.func65, Try.ntmps65
  go_wp2_with (first | (go_at_call 68; refine (qc.out _).mono ?_; rintro e w1 ⟨rfl, b1⟩; have k1 := hide_ (B0.out.trans (b1.mono B0.out.size)); have A1 := hide_ (A0.out.later b1); obtain ⟨y0, y1, y2, y3, -⟩ := A1.out.k4; clear b1) | (go_at_call 104; refine (right_any _ _ _).mono ?_; rintro e w9 ⟨rfl, rfl⟩))
  go_ret2
  exact ⟨by first | rfl | simp, k1.out⟩

set_option maxRecDepth 100000 in
set_option maxHeartbeats 8000000 in
theorem gspell_b (c k i : Int) (su : Option Addr) (n cu : Nat) (w : World) (B : List Int) (hc : cR c = true) (hk : kR k = true) (h : rightB i 4 = true) (qe : ∀ W, Below w.heap.size w W → Calls Try.prog 105 #[.slice su n cu] W fun e w' => ∃ r, e = .returned (.tuple #[r, .int .i64 1]) ∧ OwnB w' W.heap.size r B ∧ Below W.heap.size W w') :
    Calls Try.prog 65 #[.agg #[.int .i64 c, .int .i64 k, .int .i64 i, .slice su n cu]] w fun e w' => e = .returned (.tuple #[.slice none 0 0, .bool false]) ∧ Below w.heap.size w w' := by
  have gf := fun x y z w => gfld x y z w
  have A0 := hide_ (AB.at0 w 55 [.int .i64 c, .int .i64 k, .int .i64 i, .slice su n cu])
  have B0 := hide_ (below1 w (.cells #[.int .i64 c, .int .i64 k, .int .i64 i, .slice su n cu] 55))
  obtain ⟨x0, x1, x2, x3, -⟩ := A0.out.k4
  have qc := hide_ (fun w => gchk_ok c k i su n cu w hc hk)
  have qe := hide_ qe
  clear hc hk
  go_enter Try.func65, Try.ntmps65
  go_wp2_with (first | (go_at_call 68; refine (qc.out _).mono ?_; rintro e w1 ⟨rfl, b1⟩; have k1 := hide_ (B0.out.trans (b1.mono B0.out.size)); have A1 := hide_ (A0.out.later b1); obtain ⟨y0, y1, y2, y3, -⟩ := A1.out.k4; clear b1) | (go_at_call 104; refine (right_any _ _ _).mono ?_; rintro e w9 ⟨rfl, rfl⟩) | (go_at_call 105; refine (qe.out _ k1.out).mono ?_; rintro e w2 ⟨r, rfl, hO, b2⟩; obtain ⟨s2, c2, rfl⟩ := own_sliceB hO; have HO := hide_ (hO.mono k1.out.size); have k2 := hide_ (k1.out.trans (b2.mono k1.out.size)); have A2 := hide_ (A1.out.later b2); obtain ⟨z0, z1, z2, z3, -⟩ := A2.out.k4; clear hO b2))
  go_ret2
  exact ⟨by first | rfl | simp, k2.out⟩

set_option maxRecDepth 100000 in
set_option maxHeartbeats 8000000 in
theorem gspell_yes (c k i : Int) (su : Option Addr) (n cu : Nat) (w : World) (B : List Int) (hBl : B.length ≤ 60000) (hc : cR c = true) (hk : kR k = true) (h : rightB i 4 = true) (qe : ∀ W, Below w.heap.size w W → Calls Try.prog 105 #[.slice su n cu] W fun e w' => ∃ r, e = .returned (.tuple #[r, .int .i64 0]) ∧ OwnB w' W.heap.size r B ∧ Below W.heap.size W w') :
    Calls Try.prog 65 #[.agg #[.int .i64 c, .int .i64 k, .int .i64 i, .slice su n cu]] w fun e w' => ∃ r, e = .returned (.tuple #[r, .bool true]) ∧ OwnB w' w.heap.size r (p4F c k i ++ B) ∧ Below w.heap.size w w' := by
  have r1 : rightB c 2 = true := by unfold cR at hc; simp [rightB, szB, lim] at hc ⊢; omega
  have r2 : rightB k 1 = true := by unfold kR at hk; simp [rightB, szB, lim] at hk ⊢; omega
  have r3 : rightB 0 1 = true := by decide
  have gf := fun x y z w => gfld x y z w
  have A0 := hide_ (AB.at0 w 55 [.int .i64 c, .int .i64 k, .int .i64 i, .slice su n cu])
  have B0 := hide_ (below1 w (.cells #[.int .i64 c, .int .i64 k, .int .i64 i, .slice su n cu] 55))
  obtain ⟨x0, x1, x2, x3, -⟩ := A0.out.k4
  have qc := hide_ (fun w => gchk_ok c k i su n cu w hc hk)
  have qe := hide_ qe
  have HR := hide_ (And.intro r1 (And.intro r2 (And.intro r3 h)))
  have HBl := hide_ hBl
  obtain ⟨i0, hi0, hz0, hz1, hz2⟩ := info_parts info5
  have HN : Hid (Try.prog.info? 5 = some i0 ∧ i0.zero = some (.int .u8 0) ∧ i0.size = 1 ∧ i0.bytes = 1) := ⟨hi0, hz0, hz1, hz2⟩
  clear hi0 hz0 hz1 hz2 hc hk r1 r2 r3 hBl
  go_enter Try.func65, Try.ntmps65
  go_wp2_with (first | (go_at_call 68; refine (qc.out _).mono ?_; rintro e w1 ⟨rfl, b1⟩; have k1 := hide_ (B0.out.trans (b1.mono B0.out.size)); have A1 := hide_ (A0.out.later b1); obtain ⟨y0, y1, y2, y3, -⟩ := A1.out.k4; clear b1) | (go_at_call 104; refine (right_any _ _ _).mono ?_; rintro e w9 ⟨rfl, rfl⟩) | (go_at_call 105; refine (qe.out _ k1.out).mono ?_; rintro e w2 ⟨r, rfl, hO, b2⟩; obtain ⟨s2, c2, rfl⟩ := own_sliceB hO; have HO := hide_ (hO.mono k1.out.size); have k2 := hide_ (k1.out.trans (b2.mono k1.out.size)); have A2 := hide_ (A1.out.later b2); obtain ⟨z0, z1, z2, z3, -⟩ := A2.out.k4; clear hO b2) | (go_at_call 70; refine (gnum_any c k i 0 su n cu _).mono ?_; rintro e w3 ⟨rfl, b3⟩; have k3 := hide_ (k2.out.trans (b3.mono k2.out.size)); have HO3 := hide_ (HO.out.later b3); clear b3) | (go_at_call 106; refine (gsizes_any _).mono ?_; rintro e w4 ⟨rfl, b4⟩; have j4 := (below1 w3 (.cells #[.int .i64 c, .int .i64 k, .int .i64 0, .int .i64 i] 112)).trans (b4.mono (by simp)); have N4 := hide_ ((AB.at0 w3 112 [.int .i64 c, .int .i64 k, .int .i64 0, .int .i64 i]).later b4); have k4 := hide_ (k3.out.trans (j4.mono k3.out.size)); have HO4 := hide_ (HO3.out.later j4); clear b4 j4))
  generalize w3.heap.size = g1 at *
  have hle : ∀ j, (preF c k i j).length ≤ 8 := fun j => by
    match j with
    | 0 => exact Nat.zero_le _
    | 1 => show (p1F c).length ≤ 8; simp [p1F, spl_lenG]
    | 2 => show (p2F c k).length ≤ 8; simp [p2F, p1F, spl_lenG]
    | 3 => show (p3F c k).length ≤ 8; simp [p3F, p2F, p1F, spl_lenG]
    | (j + 4) => show (p4F c k i).length ≤ 8; rw [p4F_len]; omega
  have HLE := hide_ hle
  clear hle
  go_loopw [6, 31] (fun b ix wr => ∃ (j : Nat) (jz : Int) (ba : Option Addr) (bc : Nat), j ≤ 4 ∧ ix = .int .i64 jz ∧ Hid (jz = (j : Int)) ∧ b = .slice ba (preF c k i j).length bc ∧ Hid (OwnB wr w.heap.size (.slice ba (preF c k i j).length bc) (preF c k i j)) ∧ Hid (AB wr g1 112 [.int .i64 c, .int .i64 k, .int .i64 0, .int .i64 i]) ∧ Hid (OwnB wr w.heap.size (.slice s2 B.length c2) B) ∧ Hid (Below w.heap.size w wr)) (fun _ ix _ => 4 - (intOf ix).toNat)
  case atStart => exact ⟨0, 0, none, 0, by omega, rfl, hide_ rfl, rfl, hide_ (own_nilB _ _), N4, HO4, k4⟩
  case round =>
    clear N4 HO4 k4
    obtain ⟨j, jz, ba, bc, hj, rfl, HJZ, rfl, HP, HA, HB2, KB⟩ := hrel
    obtain ⟨n0, n1, n2, n3, -⟩ := HA.out.k4
    have hcs : j = 0 ∨ j = 1 ∨ j = 2 ∨ j = 3 ∨ j = 4 := by omega
    rcases hcs with rfl | rfl | rfl | rfl | rfl
    · have gx := fun w => gix0 w
      have hz : jz = 0 := HJZ.out
      subst hz
      clear HJZ hj
      have q := hide_ (put_ownK (.slice ba (preF c k i 0).length bc) (preF c k i 0) (c) 2 wr HP.out.bytes (by have := HLE.out 0; omega) HR.out.1 (spl_isB _ _ HR.out.1))
      go_wp2_with (go_at_call 73; refine q.out.mono ?_; rintro e w5 ⟨r5, rfl, o5, b5⟩; obtain ⟨ba5, bc5, re5⟩ := own_sliceB o5; subst re5; have o5 := hide_ (o5.mono KB.out.size); have HA5 := hide_ (HA.out.later b5); have HB5 := hide_ (HB2.out.later b5); have KB5 := hide_ (KB.out.trans (b5.mono KB.out.size)); clear b5)
      go_roundw
      case rel => exact ⟨1, 1, ba5, bc5, by omega, by first | rfl | go_num, hide_ rfl, rfl, o5, HA5, HB5, KB5⟩
      case measure => simp [intOf]
    · have gx := fun w => gix1 w
      have hz : jz = 1 := HJZ.out
      subst hz
      clear HJZ hj
      have q := hide_ (put_ownK (.slice ba (preF c k i 1).length bc) (preF c k i 1) (k) 1 wr HP.out.bytes (by have := HLE.out 1; omega) HR.out.2.1 (spl_isB _ _ HR.out.2.1))
      go_wp2_with (go_at_call 73; refine q.out.mono ?_; rintro e w5 ⟨r5, rfl, o5, b5⟩; obtain ⟨ba5, bc5, re5⟩ := own_sliceB o5; subst re5; have o5 := hide_ (o5.mono KB.out.size); have HA5 := hide_ (HA.out.later b5); have HB5 := hide_ (HB2.out.later b5); have KB5 := hide_ (KB.out.trans (b5.mono KB.out.size)); clear b5)
      go_roundw
      case rel => exact ⟨2, 2, ba5, bc5, by omega, by first | rfl | go_num, hide_ rfl, rfl, o5, HA5, HB5, KB5⟩
      case measure => simp [intOf]
    · have gx := fun w => gix2 w
      have hz : jz = 2 := HJZ.out
      subst hz
      clear HJZ hj
      have q := hide_ (put_ownK (.slice ba (preF c k i 2).length bc) (preF c k i 2) (0) 1 wr HP.out.bytes (by have := HLE.out 2; omega) HR.out.2.2.1 (spl_isB _ _ HR.out.2.2.1))
      go_wp2_with (go_at_call 73; refine q.out.mono ?_; rintro e w5 ⟨r5, rfl, o5, b5⟩; obtain ⟨ba5, bc5, re5⟩ := own_sliceB o5; subst re5; have o5 := hide_ (o5.mono KB.out.size); have HA5 := hide_ (HA.out.later b5); have HB5 := hide_ (HB2.out.later b5); have KB5 := hide_ (KB.out.trans (b5.mono KB.out.size)); clear b5)
      go_roundw
      case rel => exact ⟨3, 3, ba5, bc5, by omega, by first | rfl | go_num, hide_ rfl, rfl, o5, HA5, HB5, KB5⟩
      case measure => simp [intOf]
    · have gx := fun w => gix3 w
      have hz : jz = 3 := HJZ.out
      subst hz
      clear HJZ hj
      have q := hide_ (put_ownK (.slice ba (preF c k i 3).length bc) (preF c k i 3) (i) 4 wr HP.out.bytes (by have := HLE.out 3; omega) HR.out.2.2.2 (spl_isB _ _ HR.out.2.2.2))
      go_wp2_with (go_at_call 73; refine q.out.mono ?_; rintro e w5 ⟨r5, rfl, o5, b5⟩; obtain ⟨ba5, bc5, re5⟩ := own_sliceB o5; subst re5; have o5 := hide_ (o5.mono KB.out.size); have HA5 := hide_ (HA.out.later b5); have HB5 := hide_ (HB2.out.later b5); have KB5 := hide_ (KB.out.trans (b5.mono KB.out.size)); clear b5)
      go_roundw
      case rel => exact ⟨4, 4, ba5, bc5, by omega, by first | rfl | go_num, hide_ rfl, rfl, o5, HA5, HB5, KB5⟩
      case measure => simp [intOf]
    · have hz : jz = 4 := HJZ.out
      subst hz
      clear HJZ hj
      have HP8 : Hid (OwnB wr w.heap.size (.slice ba 8 bc) (p4F c k i)) := hide_ (by have := HP.out; rw [show preF c k i 4 = p4F c k i from rfl, p4F_len] at this; exact this)
      have e8 : (preF c k i 4).length = 8 := p4F_len c k i
      rw [e8]
      clear HP e8
      go_wp2_with (at_builtin; refine wpList_append_ownB rfl (.tmp 42) (.tmp 43) 24 rfl w.heap.size 5 i0 Try.underlying24 HN.out.1 HN.out.2.1 HN.out.2.2.1 HN.out.2.2.2 (.slice ba 8 bc) 8 (u8s (p4F c k i)) (by simp [Act.eval, Act.put]) (by have := HP8.out.1; rw [p4F_len] at this; exact this) (.slice s2 B.length c2) B (by simp [Act.eval, Act.put]) HB2.out.bytes (by have := HBl.out; omega) KB.out.size ?_; intro v6 w6 own6 hg6; have K6 := hide_ (KB.out.trans (HP8.out.growB hg6 (Nat.le_refl _) KB.out.size)); have O6 : Hid (OwnB w6 w.heap.size v6 (p4F c k i ++ B)) := hide_ (HP8.out.grow HB2.out.2 (by rw [p4F_len]; exact own6)); clear own6 hg6)
      go_ret2
      exact ⟨_, by first | rfl | simp, O6.out, K6.out⟩

end Go.Proofs.Ytkhpbkdblhcepaa

namespace Go.Proofs.Ytkhpbkdblhcepaa
open Go Go.RowKit
set_option linter.unusedVariables false
set_option linter.unusedSimpArgs false

theorem gneq (a b c d a2 b2 c2 d2 : Int) (w : World) : (Op.equalIn 10000 112 (.agg #[.int .i64 a, .int .i64 b, .int .i64 c, .int .i64 d]) (.agg #[.int .i64 a2, .int .i64 b2, .int .i64 c2, .int .i64 d2])).run Try.prog w = .ok (decide (a = a2) && (decide (b = b2) && (decide (c = c2) && decide (d = d2)))) w := by
  obtain ⟨i0, hi0, hz0⟩ : ∃ i0, Try.prog.info? 3 = some i0 ∧ i0.size = 1 := by
    have h : (Try.prog.info? 3).map (fun i => i.size) = some 1 := by kernel_rfl
    obtain ⟨i0, h1, h2⟩ := Option.map_eq_some_iff.1 h
    exact ⟨i0, h1, h2⟩
  have hc : Try.prog.cellsOf 3 = 1 := by kernel_rfl
  have hp : ∀ (xs : Array Value) (o : Nat) (w : World), (part 3 xs o).run Try.prog w = (match xs[o]? with | some v => Result.ok v w | none => (stuck (α := Value) "part: no such cell").run Try.prog w) := fun xs o w => by
    simp [part, isAgg, run_underlying Try.underlying3 w]
    cases xs[o]? <;> simp
  rw [run_equalIn_array w 9999 _ _ Try.underlying112 hi0, hc]
  have hr : List.range 4 = [0, 1, 2, 3] := rfl
  rw [hr]
  by_cases h1 : a = a2
  · subst h1
    by_cases h2 : b = b2
    · subst h2
      by_cases h3 : c = c2
      · subst h3
        by_cases h4 : d = d2
        · subst h4
          simp [Op.eqItems, hp, run_equalIn_int _ _ _ _ _ _ _ Try.underlying3]
        · simp [Op.eqItems, hp, run_equalIn_int _ _ _ _ _ _ _ Try.underlying3, h4]
      · simp [Op.eqItems, hp, run_equalIn_int _ _ _ _ _ _ _ Try.underlying3, h3]
    · simp [Op.eqItems, hp, run_equalIn_int _ _ _ _ _ _ _ Try.underlying3, h2]
  · simp [Op.eqItems, hp, run_equalIn_int _ _ _ _ _ _ _ Try.underlying3, h1]
def sameG (c k i : Int) (L : List BK) (c2 k2 i2 : Int) (K : List BK) : Bool := (decide (c = c2) && (decide (k = k2) && (decide ((0 : Int) = 0) && decide (i = i2)))) && sameBL L K
theorem keepG8 {w0 wa wb : World} {p0 p1 p2 p3 p4 p5 p6 p7 : Addr} {x0 x1 x2 x3 x4 x5 x6 x7 : Value} (k : Below wa.heap.size wa wb) (h : wa.cell? p0 = some x0 ∧ wa.cell? p1 = some x1 ∧ wa.cell? p2 = some x2 ∧ wa.cell? p3 = some x3 ∧ wa.cell? p4 = some x4 ∧ wa.cell? p5 = some x5 ∧ wa.cell? p6 = some x6 ∧ wa.cell? p7 = some x7 ∧ Below w0.heap.size w0 wa) :
    wb.cell? p0 = some x0 ∧ wb.cell? p1 = some x1 ∧ wb.cell? p2 = some x2 ∧ wb.cell? p3 = some x3 ∧ wb.cell? p4 = some x4 ∧ wb.cell? p5 = some x5 ∧ wb.cell? p6 = some x6 ∧ wb.cell? p7 = some x7 ∧ Below w0.heap.size w0 wb :=
  ⟨cell_later k h.1, cell_later k h.2.1, cell_later k h.2.2.1, cell_later k h.2.2.2.1, cell_later k h.2.2.2.2.1, cell_later k h.2.2.2.2.2.1, cell_later k h.2.2.2.2.2.2.1, cell_later k h.2.2.2.2.2.2.2.1, h.2.2.2.2.2.2.2.2.trans (k.mono h.2.2.2.2.2.2.2.2.size)⟩
set_option maxRecDepth 100000 in
set_option maxHeartbeats 8000000 in
theorem gsame_any (c k i : Int) (su : Option Addr) (n cu : Nat) (L : List BK) (c2 k2 i2 : Int) (su2 : Option Addr) (n2 cu2 : Nat) (K : List BK) (w : World) (hL : BuckAt w (.slice su n cu) L) (hK : BuckAt w (.slice su2 n2 cu2) K) :
    Calls Try.prog 32 #[.agg #[.int .i64 c, .int .i64 k, .int .i64 i, .slice su n cu], .agg #[.int .i64 c2, .int .i64 k2, .int .i64 i2, .slice su2 n2 cu2]] w fun e w' => e = .returned (.bool (sameG c k i L c2 k2 i2 K)) ∧ Below w.heap.size w w' := by
  have q := hide_ (fun W (hW : Below w.heap.size w W) => blsame_any _ _ L K W (hL.later hW) (hK.later hW))
  have B0 := hide_ (below2 w (.cells #[.int .i64 c, .int .i64 k, .int .i64 i, .slice su n cu] 55) (.cells #[.int .i64 c2, .int .i64 k2, .int .i64 i2, .slice su2 n2 cu2] 55))
  obtain ⟨o0, o1, o2, o3, -⟩ := ((AB.at0 w 55 [.int .i64 c, .int .i64 k, .int .i64 i, .slice su n cu]).alloc (.cells #[.int .i64 c2, .int .i64 k2, .int .i64 i2, .slice su2 n2 cu2] 55)).k4
  obtain ⟨o4, o5, o6, o7, -⟩ := (AB.at1 w (.cells #[.int .i64 c, .int .i64 k, .int .i64 i, .slice su n cu] 55) 55 [.int .i64 c2, .int .i64 k2, .int .i64 i2, .slice su2 n2 cu2]).k4
  have hq := fun w => gneq c k 0 i c2 k2 0 i2 w
  unfold sameG
  generalize sameBL L K = z at *
  generalize (decide (c = c2) && (decide (k = k2) && (decide ((0 : Int) = 0) && decide (i = i2)))) = y at *
  clear hL hK
  cases y
  · skip
    go_enter Try.func32, Try.ntmps32
    go_wp2_with fail
    refine wp_region_held_drew (S := (fun w' => w'.cell? ⟨w.heap.size, 0, none⟩ = some (.int .i64 c) ∧ w'.cell? ⟨w.heap.size, 1, none⟩ = some (.int .i64 k) ∧ w'.cell? ⟨w.heap.size, 2, none⟩ = some (.int .i64 i) ∧ w'.cell? ⟨w.heap.size, 3, none⟩ = some (.slice su n cu) ∧ w'.cell? ⟨w.heap.size + 1, 0, none⟩ = some (.int .i64 c2) ∧ w'.cell? ⟨w.heap.size + 1, 1, none⟩ = some (.int .i64 k2) ∧ w'.cell? ⟨w.heap.size + 1, 2, none⟩ = some (.int .i64 i2) ∧ w'.cell? ⟨w.heap.size + 1, 3, none⟩ = some (.slice su2 n2 cu2) ∧ Below w.heap.size w w')) (by kernel_rfl) (⟨o0, o1, o2, o3, o4, o5, o6, o7, B0.out.drew⟩) (fun hHeld => ?_)
    refine takeR (i := 0) (v := ?_) rfl (by kernel_rfl) (by kernel_rfl) (by kernel_rfl) (some 5) rfl (Or.inl ⟨by rfl, ?_⟩) (fun _ _ _ h => h) (by assumption) ?_
    rotate_left
    · intro w hSw; (try dsimp only at hSw); go_simp; (try with_reducible rfl)
    simp only [Act.put, List.setIfInBounds_toArray, List.set_cons_zero, List.set_cons_succ]
    refine takeR (i := 1) (v := ?_) rfl (by kernel_rfl) (by kernel_rfl) (by kernel_rfl) (some 6) rfl (Or.inl ⟨by rfl, ?_⟩) (fun _ _ _ h => h) (by assumption) ?_
    rotate_left
    · intro w hSw; (try dsimp only at hSw); go_simp; (try with_reducible rfl)
    simp only [Act.put, List.setIfInBounds_toArray, List.set_cons_zero, List.set_cons_succ]
    refine takeR (i := 3) (v := ?_) rfl (by kernel_rfl) (by kernel_rfl) (by kernel_rfl) (some 8) rfl (Or.inl ⟨by rfl, ?_⟩) (fun _ _ _ h => h) (by assumption) ?_
    rotate_left
    · intro w hSw; (try dsimp only at hSw); go_simp; (try with_reducible rfl)
    simp only [Act.put, List.setIfInBounds_toArray, List.set_cons_zero, List.set_cons_succ]
    refine takeR (i := 4) (v := ?_) rfl (by kernel_rfl) (by kernel_rfl) (by kernel_rfl) (some 9) rfl (Or.inl ⟨by rfl, ?_⟩) (fun _ _ _ h => h) (by assumption) ?_
    rotate_left
    · intro w hSw; (try dsimp only at hSw); go_simp; (try with_reducible rfl)
    simp only [Act.put, List.setIfInBounds_toArray, List.set_cons_zero, List.set_cons_succ]
    refine wpAnyH_ready (rs := [2]) (by kernel_rfl) (by simp) ?_
    refine AllReadyH.cons rfl (fun K hK => ?_) (AllReadyH.nil)
    go_simp
    refine (gnum_any _ _ _ 0 _ _ _ _).mono ?_
    rintro e w4 ⟨rfl, b4⟩
    refine hK.out _ _ (keepG8 b4 hHeld) (fun hHeld => ?_)
    clear hK K
    try simp only [Act.put, List.setIfInBounds_toArray, List.set_cons_zero, List.set_cons_succ]
    refine wpAnyH_ready (rs := [5]) (by kernel_rfl) (by simp) ?_
    refine AllReadyH.cons rfl (fun K hK => ?_) (AllReadyH.nil)
    go_simp
    refine (gnum_any _ _ _ 0 _ _ _ _).mono ?_
    rintro e w5 ⟨rfl, b4⟩
    refine hK.out _ _ (keepG8 b4 hHeld) (fun hHeld => ?_)
    clear hK K
    try simp only [Act.put, List.setIfInBounds_toArray, List.set_cons_zero, List.set_cons_succ]
    refine takeR (i := 6) (v := ?_) rfl (by kernel_rfl) (by kernel_rfl) (by kernel_rfl) (some 11) rfl (Or.inl ⟨by rfl, ?_⟩) (fun _ _ _ h => h) (by assumption) ?_
    rotate_left
    · intro w hSw; (try dsimp only at hSw); go_simp; (try with_reducible rfl)
    simp only [Act.put, List.setIfInBounds_toArray, List.set_cons_zero, List.set_cons_succ]
    refine takeR (i := 7) (v := ?_) rfl (by kernel_rfl) (by kernel_rfl) (by kernel_rfl) (some 12) rfl (Or.inl ⟨by rfl, ?_⟩) (fun _ _ _ h => h) (by assumption) ?_
    rotate_left
    · intro w hSw; (try dsimp only at hSw); go_simp; (try with_reducible rfl)
    simp only [Act.put, List.setIfInBounds_toArray, List.set_cons_zero, List.set_cons_succ]
    refine takeR (i := 8) (v := undef) rfl (by kernel_rfl) (by kernel_rfl) (by kernel_rfl) (some 13) rfl (Or.inr ⟨by rfl, rfl⟩) (fun _ _ _ h => h) (by assumption) ?_
    simp only [Act.put, List.setIfInBounds_toArray, List.set_cons_zero, List.set_cons_succ]
    refine takeR (i := 9) (v := undef) rfl (by kernel_rfl) (by kernel_rfl) (by kernel_rfl) (some 14) rfl (Or.inr ⟨by rfl, rfl⟩) (fun _ _ _ h => h) (by assumption) ?_
    simp only [Act.put, List.setIfInBounds_toArray, List.set_cons_zero, List.set_cons_succ]
    refine takeR (i := 10) (v := undef) rfl (by kernel_rfl) (by kernel_rfl) (by kernel_rfl) (some 15) rfl (Or.inr ⟨by rfl, rfl⟩) (fun _ _ _ h => h) (by assumption) ?_
    simp only [Act.put, List.setIfInBounds_toArray, List.set_cons_zero, List.set_cons_succ]
    refine takeR (i := 11) (v := undef) rfl (by kernel_rfl) (by kernel_rfl) (by kernel_rfl) (some 16) rfl (Or.inr ⟨by rfl, rfl⟩) (fun _ _ _ h => h) (by assumption) ?_
    simp only [Act.put, List.setIfInBounds_toArray, List.set_cons_zero, List.set_cons_succ]
    refine takeR (i := 12) (v := undef) rfl (by kernel_rfl) (by kernel_rfl) (by kernel_rfl) (some 17) rfl (Or.inr ⟨by rfl, rfl⟩) (fun _ _ _ h => h) (by assumption) ?_
    simp only [Act.put, List.setIfInBounds_toArray, List.set_cons_zero, List.set_cons_succ]
    refine takeR (i := 13) (v := ?_) rfl (by kernel_rfl) (by kernel_rfl) (by kernel_rfl) (some 18) rfl (Or.inl ⟨by rfl, ?_⟩) (fun _ _ _ h => h) (by assumption) ?_
    rotate_left
    · intro w hSw; (try dsimp only at hSw); go_simp; (try with_reducible rfl)
    simp only [Act.put, List.setIfInBounds_toArray, List.set_cons_zero, List.set_cons_succ]
    refine takeR (i := 14) (v := ?_) rfl (by kernel_rfl) (by kernel_rfl) (by kernel_rfl) (some 4) rfl (Or.inl ⟨by rfl, ?_⟩) (fun _ _ _ h => h) (by assumption) ?_
    rotate_left
    · intro w hSw; (try dsimp only at hSw); go_simp; (try with_reducible rfl)
    simp only [Act.put, List.setIfInBounds_toArray, List.set_cons_zero, List.set_cons_succ]
    refine wpAnyH_done (by kernel_rfl) ?_ _
    have bel := hHeld.2.2.2.2.2.2.2.2
    clear hHeld
    go_wp2_with fail
    go_ret
    exact ⟨by first | rfl | simp, bel⟩
  · skip
    go_enter Try.func32, Try.ntmps32
    go_wp2_with fail
    refine wp_region_held_drew (S := (fun w' => w'.cell? ⟨w.heap.size, 0, none⟩ = some (.int .i64 c) ∧ w'.cell? ⟨w.heap.size, 1, none⟩ = some (.int .i64 k) ∧ w'.cell? ⟨w.heap.size, 2, none⟩ = some (.int .i64 i) ∧ w'.cell? ⟨w.heap.size, 3, none⟩ = some (.slice su n cu) ∧ w'.cell? ⟨w.heap.size + 1, 0, none⟩ = some (.int .i64 c2) ∧ w'.cell? ⟨w.heap.size + 1, 1, none⟩ = some (.int .i64 k2) ∧ w'.cell? ⟨w.heap.size + 1, 2, none⟩ = some (.int .i64 i2) ∧ w'.cell? ⟨w.heap.size + 1, 3, none⟩ = some (.slice su2 n2 cu2) ∧ Below w.heap.size w w')) (by kernel_rfl) (⟨o0, o1, o2, o3, o4, o5, o6, o7, B0.out.drew⟩) (fun hHeld => ?_)
    refine takeR (i := 0) (v := ?_) rfl (by kernel_rfl) (by kernel_rfl) (by kernel_rfl) (some 5) rfl (Or.inl ⟨by rfl, ?_⟩) (fun _ _ _ h => h) (by assumption) ?_
    rotate_left
    · intro w hSw; (try dsimp only at hSw); go_simp; (try with_reducible rfl)
    simp only [Act.put, List.setIfInBounds_toArray, List.set_cons_zero, List.set_cons_succ]
    refine takeR (i := 1) (v := ?_) rfl (by kernel_rfl) (by kernel_rfl) (by kernel_rfl) (some 6) rfl (Or.inl ⟨by rfl, ?_⟩) (fun _ _ _ h => h) (by assumption) ?_
    rotate_left
    · intro w hSw; (try dsimp only at hSw); go_simp; (try with_reducible rfl)
    simp only [Act.put, List.setIfInBounds_toArray, List.set_cons_zero, List.set_cons_succ]
    refine takeR (i := 3) (v := ?_) rfl (by kernel_rfl) (by kernel_rfl) (by kernel_rfl) (some 8) rfl (Or.inl ⟨by rfl, ?_⟩) (fun _ _ _ h => h) (by assumption) ?_
    rotate_left
    · intro w hSw; (try dsimp only at hSw); go_simp; (try with_reducible rfl)
    simp only [Act.put, List.setIfInBounds_toArray, List.set_cons_zero, List.set_cons_succ]
    refine takeR (i := 4) (v := ?_) rfl (by kernel_rfl) (by kernel_rfl) (by kernel_rfl) (some 9) rfl (Or.inl ⟨by rfl, ?_⟩) (fun _ _ _ h => h) (by assumption) ?_
    rotate_left
    · intro w hSw; (try dsimp only at hSw); go_simp; (try with_reducible rfl)
    simp only [Act.put, List.setIfInBounds_toArray, List.set_cons_zero, List.set_cons_succ]
    refine wpAnyH_ready (rs := [2]) (by kernel_rfl) (by simp) ?_
    refine AllReadyH.cons rfl (fun K hK => ?_) (AllReadyH.nil)
    go_simp
    refine (gnum_any _ _ _ 0 _ _ _ _).mono ?_
    rintro e w4 ⟨rfl, b4⟩
    refine hK.out _ _ (keepG8 b4 hHeld) (fun hHeld => ?_)
    clear hK K
    try simp only [Act.put, List.setIfInBounds_toArray, List.set_cons_zero, List.set_cons_succ]
    refine wpAnyH_ready (rs := [5]) (by kernel_rfl) (by simp) ?_
    refine AllReadyH.cons rfl (fun K hK => ?_) (AllReadyH.nil)
    go_simp
    refine (gnum_any _ _ _ 0 _ _ _ _).mono ?_
    rintro e w5 ⟨rfl, b4⟩
    refine hK.out _ _ (keepG8 b4 hHeld) (fun hHeld => ?_)
    clear hK K
    try simp only [Act.put, List.setIfInBounds_toArray, List.set_cons_zero, List.set_cons_succ]
    refine takeR (i := 6) (v := ?_) rfl (by kernel_rfl) (by kernel_rfl) (by kernel_rfl) (some 11) rfl (Or.inl ⟨by rfl, ?_⟩) (fun _ _ _ h => h) (by assumption) ?_
    rotate_left
    · intro w hSw; (try dsimp only at hSw); go_simp; (try with_reducible rfl)
    simp only [Act.put, List.setIfInBounds_toArray, List.set_cons_zero, List.set_cons_succ]
    refine takeR (i := 7) (v := ?_) rfl (by kernel_rfl) (by kernel_rfl) (by kernel_rfl) (some 12) rfl (Or.inl ⟨by rfl, ?_⟩) (fun _ _ _ h => h) (by assumption) ?_
    rotate_left
    · intro w hSw; (try dsimp only at hSw); go_simp; (try with_reducible rfl)
    simp only [Act.put, List.setIfInBounds_toArray, List.set_cons_zero, List.set_cons_succ]
    refine takeR (i := 8) (v := ?_) rfl (by kernel_rfl) (by kernel_rfl) (by kernel_rfl) (some 13) rfl (Or.inl ⟨by rfl, ?_⟩) (fun _ _ _ h => h) (by assumption) ?_
    rotate_left
    · intro w hSw; (try dsimp only at hSw); go_simp; (try with_reducible rfl)
    simp only [Act.put, List.setIfInBounds_toArray, List.set_cons_zero, List.set_cons_succ]
    refine takeR (i := 9) (v := ?_) rfl (by kernel_rfl) (by kernel_rfl) (by kernel_rfl) (some 14) rfl (Or.inl ⟨by rfl, ?_⟩) (fun _ _ _ h => h) (by assumption) ?_
    rotate_left
    · intro w hSw; (try dsimp only at hSw); go_simp; (try with_reducible rfl)
    simp only [Act.put, List.setIfInBounds_toArray, List.set_cons_zero, List.set_cons_succ]
    refine takeR (i := 10) (v := ?_) rfl (by kernel_rfl) (by kernel_rfl) (by kernel_rfl) (some 15) rfl (Or.inl ⟨by rfl, ?_⟩) (fun _ _ _ h => h) (by assumption) ?_
    rotate_left
    · intro w hSw; (try dsimp only at hSw); go_simp; (try with_reducible rfl)
    simp only [Act.put, List.setIfInBounds_toArray, List.set_cons_zero, List.set_cons_succ]
    refine takeR (i := 11) (v := ?_) rfl (by kernel_rfl) (by kernel_rfl) (by kernel_rfl) (some 16) rfl (Or.inl ⟨by rfl, ?_⟩) (fun _ _ _ h => h) (by assumption) ?_
    rotate_left
    · intro w hSw; (try dsimp only at hSw); go_simp; (try with_reducible rfl)
    simp only [Act.put, List.setIfInBounds_toArray, List.set_cons_zero, List.set_cons_succ]
    refine wpAnyH_ready (rs := [12]) (by kernel_rfl) (by simp) ?_
    refine AllReadyH.cons rfl (fun K hK => ?_) (AllReadyH.nil)
    go_simp
    refine (q.out _ hHeld.2.2.2.2.2.2.2.2).mono ?_
    rintro e w9 ⟨rfl, b4⟩
    refine hK.out _ _ (keepG8 b4 hHeld) (fun hHeld => ?_)
    clear hK K
    try simp only [Act.put, List.setIfInBounds_toArray, List.set_cons_zero, List.set_cons_succ]
    refine takeR (i := 13) (v := ?_) rfl (by kernel_rfl) (by kernel_rfl) (by kernel_rfl) (some 18) rfl (Or.inl ⟨by rfl, ?_⟩) (fun _ _ _ h => h) (by assumption) ?_
    rotate_left
    · intro w hSw; (try dsimp only at hSw); go_simp; (try with_reducible rfl)
    simp only [Act.put, List.setIfInBounds_toArray, List.set_cons_zero, List.set_cons_succ]
    refine takeR (i := 14) (v := ?_) rfl (by kernel_rfl) (by kernel_rfl) (by kernel_rfl) (some 4) rfl (Or.inl ⟨by rfl, ?_⟩) (fun _ _ _ h => h) (by assumption) ?_
    rotate_left
    · intro w hSw; (try dsimp only at hSw); go_simp; (try with_reducible rfl)
    simp only [Act.put, List.setIfInBounds_toArray, List.set_cons_zero, List.set_cons_succ]
    refine wpAnyH_done (by kernel_rfl) ?_ _
    have bel := hHeld.2.2.2.2.2.2.2.2
    clear hHeld
    go_wp2_with fail
    go_ret
    exact ⟨by first | rfl | simp, bel⟩

end Go.Proofs.Ytkhpbkdblhcepaa

namespace Go.Proofs.Ytkhpbkdblhcepaa
open Go Go.RowKit
set_option linter.unusedVariables false
set_option linter.unusedSimpArgs false

theorem gben {v : Value} {L : List BK} {w : World} (hL : BuckAt w v L) (hF : BFit L) (z : Bool) (hz : gB L = z) : ∀ W, Below w.heap.size w W → Calls Try.prog 105 #[v] W fun e w' => ∃ r, e = .returned (.tuple #[r, .int .i64 (if z then 0 else 1)]) ∧ OwnB w' W.heap.size r (if z then encK L else []) ∧ Below W.heap.size W w' := fun W hW => by
  subst hz
  have := be_all (hL.later hW) hF (gB_ben (L := L))
  exact this
theorem gspell_F (c k i : Int) (su : Option Addr) (n cu : Nat) (L : List BK) (w : World) (hL : BuckAt w (.slice su n cu) L) (hF : BFit L) (h : gR c k i L = false) :
    Calls Try.prog 65 #[.agg #[.int .i64 c, .int .i64 k, .int .i64 i, .slice su n cu]] w fun e w' => e = .returned (.tuple #[.slice none 0 0, .bool false]) ∧ Below w.heap.size w w' := by
  cases h1 : cR c
  · exact gspell_c c k i su n cu w h1
  cases h2 : kR k
  · exact gspell_k c k i su n cu w h1 h2
  cases h3 : rightB i 4
  · exact gspell_i c k i su n cu w h1 h2 h3
  cases h4 : gB L
  · exact gspell_b c k i su n cu w [] h1 h2 h3 (gben hL hF false h4)
  · simp [gR, gN, h1, h2, h3, h4] at h
theorem gR_parts {c k i : Int} {L : List BK} (h : gR c k i L = true) : cR c = true ∧ kR k = true ∧ rightB i 4 = true ∧ gB L = true := by
  simpa [gR, gN, and_assoc] using h
theorem gB_parts {L : List BK} (h : gB L = true) : L.length ≤ 100 ∧ L.all bkR = true ∧ (encK L).length ≤ 60000 := by
  unfold gB at h
  simp only [Bool.and_eq_true, decide_eq_true_eq] at h
  exact h
theorem gspell_T (c k i : Int) (su : Option Addr) (n cu : Nat) (L : List BK) (w : World) (hL : BuckAt w (.slice su n cu) L) (hF : BFit L) (h : gR c k i L = true) :
    Calls Try.prog 65 #[.agg #[.int .i64 c, .int .i64 k, .int .i64 i, .slice su n cu]] w fun e w' => ∃ r, e = .returned (.tuple #[r, .bool true]) ∧ OwnB w' w.heap.size r (gE c k i L) ∧ Below w.heap.size w w' := by
  obtain ⟨h1, h2, h3, h4⟩ := gR_parts h
  exact gspell_yes c k i su n cu w (encK L) (gB_parts h4).2.2 h1 h2 h3 (gben hL hF true h4)

set_option maxRecDepth 100000 in
set_option maxHeartbeats 8000000 in
theorem genc_no (c k i : Int) (su : Option Addr) (n cu : Nat) (L : List BK) (w : World) (hL : BuckAt w (.slice su n cu) L) (hF : BFit L) (h : gR c k i L = false) :
    Calls Try.prog 30 #[.agg #[.int .i64 c, .int .i64 k, .int .i64 i, .slice su n cu]] w fun e w' => e = .returned (.tuple #[.slice none 0 0, .int .i64 1]) ∧ Below w.heap.size w w' := by
  have q := hide_ (fun W (hW : Below w.heap.size w W) => gspell_F c k i su n cu L W (hL.later hW) hF h)
  have A0 := hide_ (AB.at0 w 55 [.int .i64 c, .int .i64 k, .int .i64 i, .slice su n cu])
  have B0 := hide_ (below1 w (.cells #[.int .i64 c, .int .i64 k, .int .i64 i, .slice su n cu] 55))
  obtain ⟨x0, x1, x2, x3, -⟩ := A0.out.k4
  clear hL hF h
  go_enter Try.func30, Try.ntmps30
  go_wp2_with (go_at_call 65; refine (q.out _ B0.out).mono ?_; rintro e w1 ⟨rfl, b1⟩)
  go_ret2
  exact ⟨by first | rfl | simp, B0.out.trans (b1.mono B0.out.size)⟩

set_option maxRecDepth 100000 in
set_option maxHeartbeats 8000000 in
theorem genc_yes (c k i : Int) (su : Option Addr) (n cu : Nat) (L : List BK) (w : World) (hL : BuckAt w (.slice su n cu) L) (hF : BFit L) (h : gR c k i L = true) :
    Calls Try.prog 30 #[.agg #[.int .i64 c, .int .i64 k, .int .i64 i, .slice su n cu]] w fun e w' => (∃ r, e = .returned (.tuple #[r, .int .i64 0]) ∧ OwnB w' w.heap.size r (gE c k i L)) ∧ Below w.heap.size w w' := by
  have q := hide_ (fun W (hW : Below w.heap.size w W) => gspell_T c k i su n cu L W (hL.later hW) hF h)
  have A0 := hide_ (AB.at0 w 55 [.int .i64 c, .int .i64 k, .int .i64 i, .slice su n cu])
  have B0 := hide_ (below1 w (.cells #[.int .i64 c, .int .i64 k, .int .i64 i, .slice su n cu] 55))
  obtain ⟨x0, x1, x2, x3, -⟩ := A0.out.k4
  clear hL hF h
  go_enter Try.func30, Try.ntmps30
  go_wp2_with (go_at_call 65; refine (q.out _ B0.out).mono ?_; rintro e w1 ⟨r, rfl, o1, b1⟩; obtain ⟨s2, c2, rfl⟩ := own_sliceB o1; have o1 := hide_ o1)
  go_ret2
  exact ⟨⟨_, by first | rfl | simp, o1.out.mono B0.out.size⟩, B0.out.trans (b1.mono B0.out.size)⟩

set_option maxRecDepth 100000 in
set_option maxHeartbeats 8000000 in
theorem gright_no (c k i : Int) (su : Option Addr) (n cu : Nat) (L : List BK) (w : World) (hL : BuckAt w (.slice su n cu) L) (hF : BFit L) (h : gR c k i L = false) :
    Calls Try.prog 64 #[.agg #[.int .i64 c, .int .i64 k, .int .i64 i, .slice su n cu]] w fun e w' => e = .returned (.bool false) ∧ Below w.heap.size w w' := by
  have q := hide_ (fun W (hW : Below w.heap.size w W) => gspell_F c k i su n cu L W (hL.later hW) hF h)
  have A0 := hide_ (AB.at0 w 55 [.int .i64 c, .int .i64 k, .int .i64 i, .slice su n cu])
  have B0 := hide_ (below1 w (.cells #[.int .i64 c, .int .i64 k, .int .i64 i, .slice su n cu] 55))
  obtain ⟨x0, x1, x2, x3, -⟩ := A0.out.k4
  clear hL hF h
  go_enter Try.func64, Try.ntmps64
  go_wp2_with (go_at_call 65; refine (q.out _ B0.out).mono ?_; rintro e w1 ⟨rfl, b1⟩)
  go_ret
  exact ⟨rfl, B0.out.trans (b1.mono B0.out.size)⟩

set_option maxRecDepth 100000 in
set_option maxHeartbeats 8000000 in
theorem gright_yes (c k i : Int) (su : Option Addr) (n cu : Nat) (L : List BK) (w : World) (hL : BuckAt w (.slice su n cu) L) (hF : BFit L) (h : gR c k i L = true) :
    Calls Try.prog 64 #[.agg #[.int .i64 c, .int .i64 k, .int .i64 i, .slice su n cu]] w fun e w' => e = .returned (.bool true) ∧ Below w.heap.size w w' := by
  have q := hide_ (fun W (hW : Below w.heap.size w W) => gspell_T c k i su n cu L W (hL.later hW) hF h)
  have A0 := hide_ (AB.at0 w 55 [.int .i64 c, .int .i64 k, .int .i64 i, .slice su n cu])
  have B0 := hide_ (below1 w (.cells #[.int .i64 c, .int .i64 k, .int .i64 i, .slice su n cu] 55))
  obtain ⟨x0, x1, x2, x3, -⟩ := A0.out.k4
  clear hL hF h
  go_enter Try.func64, Try.ntmps64
  go_wp2_with (go_at_call 65; refine (q.out _ B0.out).mono ?_; rintro e w1 ⟨r, rfl, o1, b1⟩; obtain ⟨s2, c2, rfl⟩ := own_sliceB o1; have o1 := hide_ o1)
  go_ret
  exact ⟨rfl, B0.out.trans (b1.mono B0.out.size)⟩

theorem gright_any (c k i : Int) (su : Option Addr) (n cu : Nat) (L : List BK) (w : World) (hL : BuckAt w (.slice su n cu) L) (hF : BFit L) : Calls Try.prog 64 #[.agg #[.int .i64 c, .int .i64 k, .int .i64 i, .slice su n cu]] w fun e w' => e = .returned (.bool (gR c k i L)) ∧ Below w.heap.size w w' := by
  cases h : gR c k i L
  · exact gright_no c k i su n cu L w hL hF h
  · exact gright_yes c k i su n cu L w hL hF h
end Go.Proofs.Ytkhpbkdblhcepaa

