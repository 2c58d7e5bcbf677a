import Derived.Test.YtcbkghbfalfkhaaXc
import Derived.WalkKit
import Derived.WalkSpells
import Derived.WalkLawsBesides
import Derived.Below
import Derived.Handy
import Derived.Test.YtcbkghbfalfkhaaJA
import Derived.Test.YtcbkghbfalfkhaaJD
import Derived.Test.YtcbkghbfalfkhaaZz
import Derived.Deep.RegionHeld3
import Derived.Deep.RegionWith
import Derived.Deep.MidRow
import Derived.Deep.Cut
namespace Go.Proofs.Ytcbkghbfalfkhaa
section
open Go Go.RowKit
set_option linter.unusedVariables false
set_option linter.unusedSimpArgs false

theorem spl_isB (n s : Int) (hr : rightB n s = true) : isB (spl n s) := by
  simp only [rightB, Bool.and_eq_true, decide_eq_true_eq] at hr
  obtain ⟨hs, h0, h1⟩ := hr
  rcases szB_true hs with rfl | rfl | rfl
  · intro z hz; simp [spl] at hz; omega
  · intro z hz; simp [spl] at hz; omega
  · have h1 : n < 4294967296 := by simpa [lim] using h1
    intro z hz; simp [spl] at hz; omega
end

section
open Go Go.RowKit
set_option linter.unusedVariables false
set_option linter.unusedSimpArgs false

/-- a bucket: its numbers, its actions -/
abbrev BK := Int × Int × Int × List A11
def bkN (o : BK) : Bool := rightB o.1 2 && (rightB o.2.1 4 && rightB o.2.2.1 4)
def bkA (o : BK) : Bool := decide (o.2.2.2.length ≤ 100) && o.2.2.2.all artO
def bkR (o : BK) : Bool := bkA o && bkN o
def bkE (o : BK) : List Int := [] ++ spl ((16 + (encA o.2.2.2).length : Nat) : Int) 2 ++ spl o.1 2 ++ spl o.2.1 4 ++ spl o.2.2.1 4 ++ List.replicate 4 0 ++ encA o.2.2.2
def bkFit (o : BK) : Prop := AFit o.2.2.2
theorem AB.k4 {w : World} {g : Nat} {ty : TypeId} {a b c d : Value} (h : AB w g ty [a, b, c, d]) : w.cell? ⟨g, 0, none⟩ = some a ∧ w.cell? ⟨g, 1, none⟩ = some b ∧ w.cell? ⟨g, 2, none⟩ = some c ∧ w.cell? ⟨g, 3, none⟩ = some d ∧ w.frozen? ⟨g, 0, none⟩ = false ∧ w.frozen? ⟨g, 1, none⟩ = false ∧ w.frozen? ⟨g, 2, none⟩ = false ∧ w.frozen? ⟨g, 3, none⟩ = false :=
  ⟨(h.cell (j := 0) rfl).1, (h.cell (j := 1) rfl).1, (h.cell (j := 2) rfl).1, (h.cell (j := 3) rfl).1, (h.cell (j := 0) rfl).2, (h.cell (j := 1) rfl).2, (h.cell (j := 2) rfl).2, (h.cell (j := 3) rfl).2⟩
theorem AB.setk4 {w : World} {g : Nat} {ty : TypeId} {a b c d : Value} (h : AB w g ty [a, b, c, d]) (x y z u : Value) : AB ((((w.setCell ⟨g, 0, none⟩ x).setCell ⟨g, 1, none⟩ y).setCell ⟨g, 2, none⟩ z).setCell ⟨g, 3, none⟩ u) g ty [x, y, z, u] := (((h.set (j := 0) x).set (j := 1) y).set (j := 2) z).set (j := 3) u
theorem below_setk4 {w0 w : World} {g n : Nat} (h : Below n w0 w) (hg : n ≤ g) (x y z u : Value) : Below n w0 ((((w.setCell ⟨g, 0, none⟩ x).setCell ⟨g, 1, none⟩ y).setCell ⟨g, 2, none⟩ z).setCell ⟨g, 3, none⟩ u) := (((h.setCell hg x).setCell hg y).setCell hg z).setCell hg u
/-- what acts.Encode answers -/
def encR (L : List A11) (B : List Int) (er : Int) : Prop := (L.length ≤ 100 ∧ L.all artO = true ∧ B = encA L ∧ er = 0) ∨ (¬ (L.length ≤ 100 ∧ L.all artO = true) ∧ B = [] ∧ er = 1)
theorem encR_some (L : List A11) : ∃ B er, encR L B er := by
  by_cases h : L.length ≤ 100 ∧ L.all artO = true
  · exact ⟨_, _, .inl ⟨h.1, h.2, rfl, rfl⟩⟩
  · exact ⟨_, _, .inr ⟨h, rfl, rfl⟩⟩
theorem own_nilB (w : World) (base : Nat) : OwnB w base (.slice none 0 0) [] := ⟨World.ownsRow_nil _ _ _ _, fun z hz => by cases hz⟩
theorem le_all {v : Value} {L : List A11} {B : List Int} {er : Int} {w : World} (hL : ActAt w v L) (hF : AFit L) (h : encR L B er) : Calls Try.prog 9 #[v] w fun e w' => ∃ r, e = .returned (.tuple #[r, .int .i64 er]) ∧ OwnB w' w.heap.size r B ∧ Below w.heap.size w w' := by
  rcases h with ⟨h1, h2, rfl, rfl⟩ | ⟨h, rfl, rfl⟩
  · exact le_yes v L w hL hF h1 h2
  · have key : ∀ (e : Ending) (w' : World), e = .returned (.tuple #[.slice none 0 0, .int .i64 1]) ∧ Below w.heap.size w w' → ∃ r, e = .returned (.tuple #[r, .int .i64 1]) ∧ OwnB w' w.heap.size r [] ∧ Below w.heap.size w w' := fun e w' he => ⟨_, he.1, own_nilB _ _, he.2⟩
    by_cases h100 : L.length ≤ 100
    · have h3 : L.all artO = false := by
        cases hh : L.all artO
        · rfl
        · exact absurd ⟨h100, hh⟩ h
      exact (le_no v L w hL hF h100 h3).mono key
    · exact (le_big v L w hL (by omega)).mono key
theorem encA_6000 {L : List A11} (hF : AFit L) (h1 : L.length ≤ 100) (h2 : L.all artO = true) : (encA L).length ≤ 6000 := by
  have := encA_len L hF h2
  omega
theorem put_ownK (v : Value) (l : List Int) (n s : Int) (w : World) (hB : Bytes w v l) (hl : l.length ≤ 1000) (hr : rightB n s = true) (hs : isB (spl n s)) :
    Calls Try.prog 71 #[v, .int .i64 n, .int .i64 s] w fun e w' => ∃ r, e = .returned r ∧ OwnB w' w.heap.size r (l ++ spl n s) ∧ Below w.heap.size w w' :=
  (put_any v l n s w hB (by omega) hr).mono fun e w' ⟨r, h1, h2, h3⟩ => ⟨r, h1, ⟨h2, by
    obtain ⟨_, _, _, _, _, hb, _⟩ := hB
    exact hb.app hs⟩, h3⟩
theorem own_zeros4 {w w' : World} {base n nn : Nat} {v v' : Value} {l : List Int} (h : OwnB w base v l) (hl : l.length = n) (ho : w'.ownsRow base 5 1 v' (n + 4) (u8s (l ++ List.replicate 4 0))) (hg : w.grownBy w' v.ownBlock) (h1 : nn ≤ base) (h2 : nn ≤ w.heap.size) :
    OwnB w' base v' (l ++ List.replicate 4 0) ∧ Below nn w w' :=
  ⟨⟨by rw [List.length_append, List.length_replicate, hl]; exact ho, h.2.app (isB_zeros 4)⟩, h.growB hg h1 h2⟩
theorem own_sliceB {w : World} {base : Nat} {v : Value} {l : List Int} (h : OwnB w base v l) : ∃ s c, v = .slice s l.length c := by
  rcases h.1.2 with ⟨rfl, hn⟩ | ⟨g, cap, cur, rfl, _⟩
  · exact ⟨none, 0, by rw [hn]⟩
  · exact ⟨_, _, rfl⟩

set_option maxRecDepth 100000 in
set_option maxHeartbeats 8000000 in
theorem bspell_no (a b c : Int) (u : Value) (L : List A11) (w : World) (hL : ActAt w u L) (hF : AFit L) (h : bkR (a, b, c, L) = false) :
    Calls Try.prog 65 #[.agg #[.int .i64 a, .int .i64 b, .int .i64 c, u]] w fun e w' => e = .returned (.tuple #[.slice none 0 0, .bool false]) ∧ Below w.heap.size w w' := by
  obtain ⟨B, er, hB⟩ := encR_some L
  have A0 := hide_ (AB.at0 w 96 [.int .i64 a, .int .i64 b, .int .i64 c, u])
  have B0 := hide_ (below1 w (.cells #[.int .i64 a, .int .i64 b, .int .i64 c, u] 96))
  have qe := hide_ (fun W (hb : Below w.heap.size w W) => le_all (hL.later hb) hF hB)
  obtain ⟨x0, x1, x2, x3, -⟩ := A0.out.k4
  have hc : er = 1 ∨ (er = 0 ∧ (rightB a 2 = false ∨ (rightB a 2 = true ∧ (rightB b 4 = false ∨ (rightB b 4 = true ∧ rightB c 4 = false))))) := by
    rcases hB with ⟨h1, h2, rfl, rfl⟩ | ⟨-, -, rfl⟩
    · refine .inr ⟨rfl, ?_⟩
      have e : bkA (a, b, c, L) = true := by show (decide (L.length ≤ 100) && L.all artO) = true; rw [h2, decide_eq_true h1]; rfl
      have hn : (rightB a 2 && (rightB b 4 && rightB c 4)) = false := by
        unfold bkR at h
        rw [e, Bool.true_and] at h
        exact h
      revert hn
      cases rightB a 2 <;> cases rightB b 4 <;> cases rightB c 4 <;> decide
    · exact .inl rfl
  clear hL hF h hB
  rcases hc with rfl | ⟨rfl, h1 | ⟨h1, h2 | ⟨h2, h3⟩⟩⟩
  all_goals
    go_enter Try.func65, Try.ntmps65
    go_wp2_with (first | (go_at_call 9; refine (qe.out _ B0.out).mono ?_; rintro e w2 ⟨r, rfl, hO, b2⟩; obtain ⟨s2, c2, rfl⟩ := own_sliceB hO; have HO := hide_ hO; have k2 := hide_ (B0.out.trans (b2.mono B0.out.size)); obtain ⟨x0, x1, x2, x3, -⟩ := (A0.out.later b2).k4; have A2 := hide_ (A0.out.later b2); clear hO b2) | (go_at_call 102; refine (right_any _ _ _).mono ?_; rintro e w9 ⟨rfl, rfl⟩))
    go_ret2
    exact ⟨rfl, k2.out⟩

set_option maxRecDepth 100000 in
set_option maxHeartbeats 8000000 in
theorem bspell_yes (a b c : Int) (u : Value) (L : List A11) (w : World) (hL : ActAt w u L) (hF : AFit L) (h : bkR (a, b, c, L) = true) :
    Calls Try.prog 65 #[.agg #[.int .i64 a, .int .i64 b, .int .i64 c, u]] w fun e w' => ∃ r, e = .returned (.tuple #[r, .bool true]) ∧ OwnB w' w.heap.size r (bkE (a, b, c, L)) ∧ Below w.heap.size w w' := by
  have hk : bkA (a, b, c, L) = true ∧ bkN (a, b, c, L) = true := by unfold bkR at h; rwa [Bool.and_eq_true] at h
  have hk1 : decide (L.length ≤ 100) = true ∧ L.all artO = true := by have := hk.1; unfold bkA at this; rwa [Bool.and_eq_true] at this
  have h100 : L.length ≤ 100 := by simpa using hk1.1
  have hk2 : rightB a 2 = true ∧ (rightB b 4 && rightB c 4) = true := by have := hk.2; unfold bkN at this; rwa [Bool.and_eq_true] at this
  have h1 := hk2.1
  have hk3 : rightB b 4 = true ∧ rightB c 4 = true := by have := hk2.2; rwa [Bool.and_eq_true] at this
  have h2 := hk3.1
  have h3 := hk3.2
  have hlen := encA_6000 hF h100 hk1.2
  have A0 := hide_ (AB.at0 w 96 [.int .i64 a, .int .i64 b, .int .i64 c, u])
  have B0 := hide_ (below1 w (.cells #[.int .i64 a, .int .i64 b, .int .i64 c, u] 96))
  have qe := fun W (hb : Below w.heap.size w W) => le_yes u L W (hL.later hb) hF h100 hk1.2
  have hE : bkE (a, b, c, L) = [] ++ spl (16 + ((encA L).length : Int)) 2 ++ spl a 2 ++ spl b 4 ++ spl c 4 ++ List.replicate 4 0 ++ encA L := by
    show [] ++ spl ((16 + (encA L).length : Nat) : Int) 2 ++ _ ++ _ ++ _ ++ _ ++ _ = _
    rw [Int.natCast_add]; rfl
  rw [hE]
  obtain ⟨x0, x1, x2, x3, -⟩ := A0.out.k4
  generalize encA L = B at *
  obtain ⟨nn, hnn⟩ : ∃ nn, B.length = nn := ⟨_, rfl⟩
  have HNB := hide_ hnn
  rw [hnn] at hlen ⊢
  have h0 : rightB (16 + (nn : Int)) 2 = true := rightB_in2 (by omega) (by omega)
  have hw0 : IntKind.i64.wrap (16 + (nn : Int)) = 16 + (nn : Int) := by rw [IntKind.wrap_i64]; omega
  obtain ⟨P1, hP1⟩ : ∃ P, [] ++ spl (16 + (nn : Int)) 2 = P := ⟨_, rfl⟩
  obtain ⟨P2, hP2⟩ : ∃ P, P1 ++ spl a 2 = P := ⟨_, rfl⟩
  obtain ⟨P3, hP3⟩ : ∃ P, P2 ++ spl b 4 = P := ⟨_, rfl⟩
  obtain ⟨P4, hP4⟩ : ∃ P, P3 ++ spl c 4 = P := ⟨_, rfl⟩
  obtain ⟨PZ, hPZ⟩ : ∃ P, P4 ++ List.replicate 4 (0 : Int) = P := ⟨_, rfl⟩
  have hL1 : P1.length = 2 := by rw [← hP1]; simp [spl_len2]
  have hL2 : P2.length = 4 := by rw [← hP2, List.length_append, hL1, spl_len2]
  have hL3 : P3.length = 8 := by rw [← hP3, List.length_append, hL2, spl_len4]
  have hL4 : P4.length = 12 := by rw [← hP4, List.length_append, hL3, spl_len4]
  have hLZ : PZ.length = 16 := by rw [← hPZ, List.length_append, hL4, List.length_replicate]
  rw [hP1, hP2, hP3, hP4, hPZ]
  have HP1 := hide_ hP1
  have HP2 := hide_ hP2
  have HP3 := hide_ hP3
  have HP4 := hide_ hP4
  have HPZ := hide_ hPZ
  have HL1 := hide_ hL1
  have HL2 := hide_ hL2
  have HL3 := hide_ hL3
  have HL4 := hide_ hL4
  have HLZ := hide_ hLZ
  have qe := hide_ qe
  have h3x := hide_ h3
  obtain ⟨i0, hi0, hz0, hz1, hz2⟩ := info_parts info5
  have HI : Hid (Try.prog.info? 5 = some i0 ∧ i0.zero = some (.int .u8 0) ∧ i0.size = 1 ∧ i0.bytes = 1) := ⟨hi0, hz0, hz1, hz2⟩
  clear hi0 hz0 hz1 hz2 hL hF h hk hk1 hk2 hk3 h100 hE hnn hP1 hP2 hP3 hP4 hPZ hL1 hL2 hL3 hL4 hLZ
  go_enter Try.func65, Try.ntmps65
  go_wp2_with (first | (go_at_call 9; refine (qe.out _ B0.out).mono ?_; rintro e w2 ⟨r, rfl, hO, b2⟩; obtain ⟨sB, cB, hrB⟩ := own_sliceB hO; rw [HNB.out] at hrB; subst hrB; have HB2 := hide_ hO; have k2 := hide_ (B0.out.trans (b2.mono B0.out.size)); obtain ⟨x0, x1, x2, x3, -⟩ := (A0.out.later b2).k4; have A2 := hide_ (A0.out.later b2); clear hO b2) | (go_at_call 102; refine (right_any _ _ _).mono ?_; rintro e w9 ⟨rfl, rfl⟩) | (go_at_call 71; refine (put_ownK _ P3 c 4 _ HO3.out.bytes (by have := HL3.out; omega) h3 (spl_isB _ _ h3)).mono ?_; rintro e w6 ⟨r4, rfl, hO4, b4⟩; rw [HP4.out] at hO4; obtain ⟨s4, c4, hr4⟩ := own_sliceB hO4; rw [HL4.out] at hr4; subst hr4; have k6 := hide_ (k5.out.trans (b4.mono k5.out.size)); have A6 := hide_ (A5.out.later b4); have HB6 := hide_ (HB5.out.later b4); obtain ⟨y04, y14, y24, y34, -⟩ := A6.out.k4; have HO4 := hide_ hO4; have b4 := hide_ b4; clear hO4) | (go_at_call 71; refine (put_ownK _ P2 b 4 _ HO2.out.bytes (by have := HL2.out; omega) h2 (spl_isB _ _ h2)).mono ?_; rintro e w5 ⟨r3, rfl, hO3, b3⟩; rw [HP3.out] at hO3; obtain ⟨s3, c3, hr3⟩ := own_sliceB hO3; rw [HL3.out] at hr3; subst hr3; have k5 := hide_ (k4.out.trans (b3.mono k4.out.size)); have A5 := hide_ (A4.out.later b3); have HB5 := hide_ (HB4.out.later b3); obtain ⟨y03, y13, y23, y33, -⟩ := A5.out.k4; have HO3 := hide_ hO3; have b3 := hide_ b3; clear hO3) | (go_at_call 71; refine (put_ownK _ P1 a 2 _ HO1.out.bytes (by have := HL1.out; omega) h1 (spl_isB _ _ h1)).mono ?_; rintro e w4 ⟨r2, rfl, hO2, b2⟩; rw [HP2.out] at hO2; obtain ⟨s2, c2, hr2⟩ := own_sliceB hO2; rw [HL2.out] at hr2; subst hr2; have k4 := hide_ (k3.out.trans (b2.mono k3.out.size)); have A4 := hide_ (A3.out.later b2); have HB4 := hide_ (HB3.out.later b2); obtain ⟨y02, y12, y22, y32, -⟩ := A4.out.k4; have HO2 := hide_ hO2; have b2 := hide_ b2; clear hO2) | (go_at_call 71; refine (put_ownK (.slice none 0 0) [] (16 + (nn : Int)) 2 _ (Bytes.nil _) (by simp) h0 (spl_isB _ _ h0)).mono ?_; rintro e w3 ⟨r1, rfl, hO1, b1⟩; rw [HP1.out] at hO1; obtain ⟨s1, c1, hr1⟩ := own_sliceB hO1; rw [HL1.out] at hr1; subst hr1; have k3 := hide_ (k2.out.trans (b1.mono k2.out.size)); have A3 := hide_ (A2.out.later b1); have HB3 := hide_ (HB2.out.later b1); obtain ⟨y01, y11, y21, y31, -⟩ := A3.out.k4; have HO1 := hide_ hO1; have b1 := hide_ b1; clear hO1) | (at_builtin; refine wpList_append_ownB rfl (.tmp 51) (.tmp 52) 24 rfl w5.heap.size 5 i0 Try.underlying24 HI.out.1 HI.out.2.1 HI.out.2.2.1 HI.out.2.2.2 (.slice s7 16 c7) 16 (u8s PZ) (by simp [Act.eval, Act.put]) (by have := O7.out.1; rw [HLZ.out] at this; exact this) (.slice sB nn cB) B (by simp [Act.eval, Act.put]) (by have := HB7.out.bytes; exact this) (by have := HNB.out; omega) j7.out.size ?_; intro v8 w8 ho8 hg8; have O8 := hide_ (O7.out.grow HB7.out.2 (by rw [HLZ.out]; exact ho8)); have k8 := hide_ (k7.out.trans (O7.out.growB hg8 k5.out.size k7.out.size)); have h58 : w.heap.size ≤ w5.heap.size := k5.out.size; clear ho8 hg8) | (at_builtin; refine wpList_append_zerosB rfl (.tmp 49) (.const (.int .i64 4)) 24 3 rfl w5.heap.size 5 i0 Try.underlying24 Try.underlying3 HI.out.1 HI.out.2.1 HI.out.2.2.1 HI.out.2.2.2 (.slice s4 12 c4) 12 P4 (by simp [Act.eval, Act.put]) (by have := HO4.out.1; rw [HL4.out] at this; exact this) (by omega) 4 (by first | rfl | simp [Act.eval, Act.put]) (by omega) b4.out.size ?_; intro v7 w7 ho7 hg7; obtain ⟨O7, bz7⟩ := own_zeros4 (nn := w5.heap.size) HO4.out HL4.out ho7 hg7 (Nat.le_refl _) b4.out.size; rw [HPZ.out] at O7; obtain ⟨s7, c7, hr7⟩ := own_sliceB O7; rw [HLZ.out] at hr7; subst hr7; have j7 := hide_ (b4.out.trans bz7); have O7 := hide_ O7; have HB7 := hide_ (HB5.out.later j7.out); have k7 := hide_ (k5.out.trans (j7.out.mono k5.out.size)); clear ho7 hg7 bz7))
  go_ret2
  exact ⟨_, rfl, O8.out.mono h58, k8.out⟩
end

section
open Go Go.RowKit
set_option linter.unusedVariables false
set_option linter.unusedSimpArgs false

/-- buckets in memory -/
def BuckAt (w : World) (v : Value) (L : List BK) : Prop := ∃ s cap, v = .slice s L.length cap ∧ L.length ≤ cap ∧ cap ≤ maxLen ∧ (s = none → cap = 0) ∧
  ∀ (i : Nat) (o : BK), L[i]? = some o → ∃ q off u, s = some ⟨q, off, none⟩ ∧ w.cell? ⟨q, off + i * 4, none⟩ = some (.int .i64 o.1) ∧ w.cell? ⟨q, off + i * 4 + 1, none⟩ = some (.int .i64 o.2.1) ∧ w.cell? ⟨q, off + i * 4 + 2, none⟩ = some (.int .i64 o.2.2.1) ∧ w.cell? ⟨q, off + i * 4 + 3, none⟩ = some u ∧ ActAt w u o.2.2.2
def BFit (L : List BK) : Prop := ∀ o ∈ L, AFit o.2.2.2
theorem BuckAt.later {w w' : World} {v : Value} {L : List BK} (h : BuckAt w v L) (hb : Below w.heap.size w w') : BuckAt w' v L := by
  obtain ⟨s, cap, rfl, h1, h2, h3, h4⟩ := h
  refine ⟨s, cap, rfl, h1, h2, h3, fun i o hi => ?_⟩
  obtain ⟨q, off, u, e, x0, x1, x2, x3, hu⟩ := h4 i o hi
  exact ⟨q, off, u, e, cell_later hb x0, cell_later hb x1, cell_later hb x2, cell_later hb x3, hu.later hb⟩
theorem BuckAt.nil (w : World) : BuckAt w (.slice none 0 0) [] := ⟨none, 0, rfl, Nat.le_refl _, Nat.zero_le _, fun _ => rfl, fun i o h => by simp at h⟩
def sameB1 (x y : BK) : Bool := decide (x.1 = y.1) && (decide (x.2.1 = y.2.1) && (decide (x.2.2.1 = y.2.2.1) && sameL x.2.2.2 y.2.2.2))
theorem sameB1_iff (x y : BK) : sameB1 x y = true ↔ x = y := by
  obtain ⟨a, b, c, L⟩ := x
  obtain ⟨a2, b2, c2, K⟩ := y
  unfold sameB1
  simp only [Bool.and_eq_true, decide_eq_true_eq, Prod.mk.injEq]
  exact ⟨fun ⟨h1, h2, h3, h4⟩ => ⟨h1, h2, h3, sameL_eq h4⟩, fun ⟨h1, h2, h3, h4⟩ => ⟨h1, h2, h3, sameL_true h4⟩⟩
theorem sameB1_no {x y : BK} (h : sameB1 x y = false) : ¬ x = y := fun e => by rw [(sameB1_iff x y).2 e] at h; cases h
def sameBL : List BK → List BK → Bool
  | [], [] => true
  | x :: r, y :: t => sameB1 x y && sameBL r t
  | _, _ => false
theorem sameBL_iff : ∀ (L K : List BK), sameBL L K = true ↔ L = K
  | [], [] => by simp [sameBL]
  | [], y :: t => by simp [sameBL]
  | x :: r, [] => by simp [sameBL]
  | x :: r, y :: t => by simp [sameBL, sameB1_iff, sameBL_iff r t]
theorem sameBL_true {L K : List BK} (h : L = K) : sameBL L K = true := (sameBL_iff L K).2 h
theorem sameBL_false {L K : List BK} (h : ¬ L = K) : sameBL L K = false := by
  cases e : sameBL L K
  · rfl
  · exact absurd ((sameBL_iff L K).1 e) h
theorem take_sameB {L K : List BK} {k : Nat} {x y : BK} (hT : L.take k = K.take k) (hx : L[k]? = some x) (hy : K[k]? = some y) (e : x = y) : L.take (k + 1) = K.take (k + 1) := by
  rw [List.take_add_one, List.take_add_one, hT, hx, hy, e]
theorem take_diffB {L K : List BK} {k : Nat} {x y : BK} (hx : L[k]? = some x) (hy : K[k]? = some y) (e : ¬ x = y) : ¬ L = K := by
  intro h
  rw [h, hy] at hx
  injection hx with hx
  exact e hx.symm

set_option maxRecDepth 100000 in
set_option maxHeartbeats 8000000 in
theorem bsame_any (a1 b1 c1 : Int) (u1 : Value) (M1 : List A11) (a2 b2 c2 : Int) (u2 : Value) (M2 : List A11) (w : World) (h1 : ActAt w u1 M1) (h2 : ActAt w u2 M2) :
    Calls Try.prog 69 #[.agg #[.int .i64 a1, .int .i64 b1, .int .i64 c1, u1], .agg #[.int .i64 a2, .int .i64 b2, .int .i64 c2, u2]] w fun e w' => e = .returned (.bool (sameB1 (a1, b1, c1, M1) (a2, b2, c2, M2))) ∧ Below w.heap.size w w' := by
  have B0 := hide_ (below2 w (.cells #[.int .i64 a1, .int .i64 b1, .int .i64 c1, u1] 96) (.cells #[.int .i64 a2, .int .i64 b2, .int .i64 c2, u2] 96))
  have q := fun W (hb : Below w.heap.size w W) => lsame_any u1 u2 M1 M2 W (h1.later hb) (h2.later hb)
  obtain ⟨x0, x1, x2, x3, -⟩ := ((AB.at0 w 96 [.int .i64 a1, .int .i64 b1, .int .i64 c1, u1]).alloc (.cells #[.int .i64 a2, .int .i64 b2, .int .i64 c2, u2] 96)).k4
  obtain ⟨y0, y1, y2, y3, -⟩ := (AB.at1 w (.cells #[.int .i64 a1, .int .i64 b1, .int .i64 c1, u1] 96) 96 [.int .i64 a2, .int .i64 b2, .int .i64 c2, u2]).k4
  have e : sameB1 (a1, b1, c1, M1) (a2, b2, c2, M2) = (decide (a1 = a2) && (decide (b1 = b2) && (decide (c1 = c2) && sameL M1 M2))) := rfl
  rw [e]
  generalize sameL M1 M2 = z at *
  have q := hide_ q
  clear h1 h2 e
  by_cases e1 : a1 = a2
  · by_cases e2 : b1 = b2
    · by_cases e3 : c1 = c2
      · have d1 : (a1 == a2) = true := by simpa using e1
        have d2 : (b1 == b2) = true := by simpa using e2
        have d3 : (c1 == c2) = true := by simpa using e3
        simp only [e1, e2, e3, decide_true, Bool.true_and] at *
        go_enter Try.func69, Try.ntmps69
        go_wp2_with (go_at_call 12; refine (q.out _ B0.out).mono ?_; rintro e w5 ⟨rfl, b5⟩)
        go_ret
        exact ⟨rfl, B0.out.trans (b5.mono B0.out.size)⟩
      · have d1 : (a1 == a2) = true := by simpa using e1
        have d2 : (b1 == b2) = true := by simpa using e2
        have d3 : (c1 == c2) = false := by simpa using e3
        rw [decide_eq_true e1, decide_eq_true e2, decide_eq_false e3]
        clear e1 e2 e3
        go_enter Try.func69, Try.ntmps69
        go_wp2
        go_ret
        exact ⟨rfl, B0.out⟩
    · have d1 : (a1 == a2) = true := by simpa using e1
      have d2 : (b1 == b2) = false := by simpa using e2
      rw [decide_eq_true e1, decide_eq_false e2]
      clear e1 e2
      go_enter Try.func69, Try.ntmps69
      go_wp2
      go_ret
      exact ⟨rfl, B0.out⟩
  · have d1 : (a1 == a2) = false := by simpa using e1
    rw [decide_eq_false e1]
    clear e1
    go_enter Try.func69, Try.ntmps69
    go_wp2
    go_ret
    exact ⟨rfl, B0.out⟩

set_option maxRecDepth 100000 in
set_option maxHeartbeats 8000000 in
theorem beqf_any (v u : Value) (L K : List BK) (w : World) (hL : BuckAt w v L) (hK : BuckAt w u K) :
    Calls Try.prog 68 #[v, u, (.func (.func 69) #[] #[])] w fun e w' => e = .returned (.bool (sameBL L K)) ∧ Below w.heap.size w w' := by
  obtain ⟨s, cap, rfl, h1, h2, h3, h4⟩ := hL
  obtain ⟨s2, cap2, rfl, k1, k2, k3, k4⟩ := hK
  have HL := hide_ h4
  have HK := hide_ k4
  have hm : L.length ≤ 9223372036854775807 := by unfold maxLen at h2; omega
  have hm2 : K.length ≤ 9223372036854775807 := by unfold maxLen at k2; omega
  clear h1 h2 h3 h4 k1 k2 k3 k4
  by_cases hlen : L.length = K.length
  · have HE := hide_ hlen
    rw [← hlen]
    have g0 : ((L.length : Int) != (L.length : Int)) = false := by simp
    clear hlen hm2
    obtain ⟨R, hR⟩ : ∃ R, sameBL L K = R := ⟨_, rfl⟩
    rw [hR]
    have HR := hide_ hR
    clear hR
    go_enter Try.func68, Try.ntmps68
    go_wp2
    go_loopw [17] (fun i wr => ∃ k : Nat, k ≤ L.length ∧ i = .int .i64 k ∧ Hid (L.take k = K.take k) ∧ Below w.heap.size w wr) (fun i _ => L.length - (intOf i).toNat)
    case atStart => exact ⟨0, Nat.zero_le _, rfl, hide_ rfl, Below.refl _ _⟩
    case round =>
      obtain ⟨j, hk, rfl, HT, hb⟩ := hrel
      by_cases hlt : j < L.length
      · have hlt2 : j < K.length := by have := HE.out; omega
        obtain ⟨⟨a1, b1, c1, M1⟩, hz1⟩ : ∃ z, L[j]? = some z := ⟨_, List.getElem?_eq_getElem hlt⟩
        obtain ⟨bq1, off1, u1, rfl, X0, X1, X2, X3, M1A⟩ := HL.out j _ hz1
        have X0 := cell_later hb X0
        have X1 := cell_later hb X1
        have X2 := cell_later hb X2
        have X3 := cell_later hb X3
        obtain ⟨su1, cu1, eu1, -⟩ := id M1A
        subst eu1
        obtain ⟨⟨a2, b2, c2, M2⟩, hz2⟩ : ∃ z, K[j]? = some z := ⟨_, List.getElem?_eq_getElem hlt2⟩
        obtain ⟨bq2, off2, u2, rfl, Y0, Y1, Y2, Y3, M2A⟩ := HK.out j _ hz2
        have Y0 := cell_later hb Y0
        have Y1 := cell_later hb Y1
        have Y2 := cell_later hb Y2
        have Y3 := cell_later hb Y3
        obtain ⟨su2, cu2, eu2, -⟩ := id M2A
        subst eu2
        have Z0 := cell_later (below1 wr (.cells #[.int .i64 a1, .int .i64 b1, .int .i64 c1, (.slice su1 M1.length cu1)] 96)) Y0
        have Z1 := cell_later (below1 wr (.cells #[.int .i64 a1, .int .i64 b1, .int .i64 c1, (.slice su1 M1.length cu1)] 96)) Y1
        have Z2 := cell_later (below1 wr (.cells #[.int .i64 a1, .int .i64 b1, .int .i64 c1, (.slice su1 M1.length cu1)] 96)) Y2
        have Z3 := cell_later (below1 wr (.cells #[.int .i64 a1, .int .i64 b1, .int .i64 c1, (.slice su1 M1.length cu1)] 96)) Y3
        have HX := hide_ hz1
        have HY := hide_ hz2
        have M1H := hide_ (M1A.later hb)
        have M2H := hide_ (M2A.later hb)
        clear hz1 hz2 hlt2 M1A M2A
        have hlt' : (j : Int) < (L.length : Int) := by omega
        have BB := hide_ (below2 wr (.cells #[.int .i64 a1, .int .i64 b1, .int .i64 c1, (.slice su1 M1.length cu1)] 96) (.cells #[.int .i64 a2, .int .i64 b2, .int .i64 c2, (.slice su2 M2.length cu2)] 96))
        have qs := fun W (hW : Below wr.heap.size wr W) => bsame_any a1 b1 c1 _ M1 a2 b2 c2 _ M2 W (M1H.out.later hW) (M2H.out.later hW)
        have qs := hide_ qs
        cases hd : sameB1 (a1, b1, c1, M1) (a2, b2, c2, M2)
        · rw [hd] at qs
          have HD := hide_ (sameB1_no hd)
          clear hd
          go_wp2_with (go_at_call 69; first | (refine (qs.out _ BB.out).mono ?_; rintro e w5 ⟨rfl, b5⟩; have b6 := BB.out.trans (b5.mono BB.out.size)) | (refine (qs.out _ (Below.refl _ _)).mono ?_; rintro e w5 ⟨rfl, b6⟩))
          go_ret
          refine ⟨?_, hb.trans (b6.mono hb.size)⟩
          rw [← HR.out, sameBL_false (take_diffB HX.out HY.out HD.out)]
          rfl
        · rw [hd] at qs
          have HD := hide_ ((sameB1_iff _ _).1 hd)
          clear hd
          go_wp2_with (go_at_call 69; first | (refine (qs.out _ BB.out).mono ?_; rintro e w5 ⟨rfl, b5⟩; have b6 := BB.out.trans (b5.mono BB.out.size)) | (refine (qs.out _ (Below.refl _ _)).mono ?_; rintro e w5 ⟨rfl, b6⟩))
          go_roundw
          case rel => exact ⟨j + 1, by omega, by go_num, hide_ (take_sameB HT.out HX.out HY.out HD.out), hb.trans (b6.mono hb.size)⟩
          case measure => simp [intOf]; omega
      · have hlt' : ¬ (j : Int) < (L.length : Int) := by omega
        go_wp2
        go_ret
        refine ⟨?_, hb⟩
        have e := HT.out
        rw [List.take_of_length_le (by omega), List.take_of_length_le (by have := HE.out; omega)] at e
        rw [← HR.out, sameBL_true e]
        rfl
  · have g0 : ((L.length : Int) != (K.length : Int)) = true := by simp; omega
    have g1 : ((L.length : Int) == (K.length : Int)) = false := by simp; omega
    have e : ¬ L = K := fun h => hlen (by rw [h])
    rw [sameBL_false e]
    go_enter Try.func68, Try.ntmps68
    go_wp2
    go_ret
    exact ⟨rfl, Below.refl _ _⟩

set_option maxRecDepth 100000 in
set_option maxHeartbeats 8000000 in
theorem blsame_any (v u : Value) (L K : List BK) (w : World) (hL : BuckAt w v L) (hK : BuckAt w u K) :
    Calls Try.prog 32 #[v, u] w fun e w' => e = .returned (.bool (sameBL L K)) ∧ Below w.heap.size w w' := by
  have q := hide_ (beqf_any v u L K w hL hK)
  generalize sameBL L K = z at *
  clear hL hK
  go_enter Try.func32, Try.ntmps32
  go_wp2_with (go_at_call 68; refine q.out.mono ?_; rintro e w1 ⟨rfl, b1⟩)
  go_ret
  exact ⟨rfl, b1⟩
end

section
open Go Go.RowKit
set_option linter.unusedVariables false
set_option linter.unusedSimpArgs false

def encK (L : List BK) : List Int := L.flatMap bkE
theorem encK_take {L : List BK} {j : Nat} {o : BK} (h : L[j]? = some o) : encK (L.take (j + 1)) = encK (L.take j) ++ bkE o := by
  rw [List.take_add_one, h]
  simp [encK]
theorem bkR_parts {o : BK} (h : bkR o = true) : o.2.2.2.length ≤ 100 ∧ o.2.2.2.all artO = true ∧ rightB o.1 2 = true ∧ rightB o.2.1 4 = true ∧ rightB o.2.2.1 4 = true := by
  unfold bkR bkA bkN at h
  simp only [Bool.and_eq_true, decide_eq_true_eq] at h
  exact ⟨h.1.1, h.1.2, h.2.1, h.2.2.1, h.2.2.2⟩
theorem bkE_len (o : BK) : (bkE o).length = 16 + (encA o.2.2.2).length := by
  unfold bkE
  simp only [List.length_append, spl_len2, spl_len4, List.length_replicate, List.length_nil]
theorem bkE_le {o : BK} (hF : AFit o.2.2.2) (h : bkR o = true) : (bkE o).length ≤ 6016 := by
  obtain ⟨h1, h2, -⟩ := bkR_parts h
  have := encA_6000 hF h1 h2
  rw [bkE_len]; omega
theorem encK_len : ∀ (L : List BK), BFit L → L.all bkR = true → (encK L).length ≤ L.length * 6016
  | [], _, _ => Nat.zero_le _
  | o :: r, hF, h => by
    rw [List.all_cons, Bool.and_eq_true] at h
    have h1 := bkE_le (hF o (by simp)) h.1
    have h2 := encK_len r (fun x hx => hF x (by simp [hx])) h.2
    show (bkE o ++ encK r).length ≤ _
    rw [List.length_append, List.length_cons]
    omega
theorem all_take_snoc {α : Type} {p : α → Bool} {L : List α} {j : Nat} {o : α} (h : (L.take j).all p = true) (hj : L[j]? = some o) (ho : p o = true) : (L.take (j + 1)).all p = true := by
  rw [List.take_add_one, hj, List.all_append, h]
  simp [ho]
theorem all_no {α : Type} {p : α → Bool} {L : List α} {j : Nat} {o : α} (hj : L[j]? = some o) (ho : p o = false) : L.all p = false := by
  rw [List.all_eq_false]
  exact ⟨o, List.mem_of_getElem? hj, by simp [ho]⟩

set_option maxRecDepth 100000 in
set_option maxHeartbeats 8000000 in
theorem be_big (v : Value) (L : List BK) (w : World) (hL : BuckAt w v L) (h : 100 < L.length) :
    Calls Try.prog 30 #[v] w fun e w' => e = .returned (.tuple #[.slice none 0 0, .int .i64 1]) ∧ Below w.heap.size w w' := by
  obtain ⟨s, cap, rfl, h1, h2, h3, h4⟩ := hL
  have hg : (100 : Int) < (L.length : Int) := by omega
  clear h1 h2 h3 h4 h
  go_enter Try.func30, Try.ntmps30
  go_wp2
  go_ret2
  exact ⟨rfl, Below.refl _ _⟩

set_option maxRecDepth 100000 in
set_option maxHeartbeats 8000000 in
theorem be_no (v : Value) (L : List BK) (w : World) (hL : BuckAt w v L) (hF : BFit L) (h100 : L.length ≤ 100) (hr : L.all bkR = false) :
    Calls Try.prog 30 #[v] w fun e w' => e = .returned (.tuple #[.slice none 0 0, .int .i64 1]) ∧ Below w.heap.size w w' := by
  obtain ⟨s, cap, rfl, h1, h2, h3, h4⟩ := hL
  have HL := hide_ h4
  have HF := hide_ hF
  have H100 := hide_ h100
  have HR := hide_ hr
  have hm : L.length ≤ 9223372036854775807 := by omega
  have hg : ¬ (100 : Int) < (L.length : Int) := by omega
  obtain ⟨i0, hi0, hz0, hz1, hz2⟩ := info_parts info5
  have HI : Hid (Try.prog.info? 5 = some i0 ∧ i0.zero = some (.int .u8 0) ∧ i0.size = 1 ∧ i0.bytes = 1) := ⟨hi0, hz0, hz1, hz2⟩
  clear hi0 hz0 hz1 hz2 h1 h2 h3 h4 hF h100 hr
  go_enter Try.func30, Try.ntmps30
  go_wp2
  go_loopw [4, 6, 7, 8, 14] (fun b _ _ _ i wr => ∃ (j : Nat) (sb : Option Addr) (nb cb : Nat) (EJ : List Int), j ≤ L.length ∧ i = .int .i64 (j : Int) ∧ b = .slice sb nb cb ∧ Hid (EJ = encK (L.take j)) ∧ Hid (EJ.length = nb) ∧ Hid (OwnB wr w.heap.size (.slice sb nb cb) EJ) ∧ Hid ((L.take j).all bkR = true) ∧ Hid (Below w.heap.size w wr)) (fun _ _ _ _ i _ => L.length - (intOf i).toNat)
  case atStart => exact ⟨0, none, 0, 0, [], Nat.zero_le _, rfl, rfl, hide_ rfl, hide_ rfl, hide_ (own_nilB _ _), hide_ rfl, hide_ (Below.refl _ _)⟩
  case round =>
    obtain ⟨j, sb, nb, cb, EJ, hj, rfl, rfl, HE, HNB, HOw, HA, KB⟩ := hrel
    by_cases hlt : j < L.length
    · have hlt' : (j : Int) < (L.length : Int) := by omega
      have hj0 : (0 : Int) ≤ (j : Int) := by omega
      obtain ⟨⟨a1, b1, c1, M1⟩, hz1⟩ : ∃ z, L[j]? = some z := ⟨_, List.getElem?_eq_getElem hlt⟩
      obtain ⟨bq1, off1, u1, rfl, X0, X1, X2, X3, M1A⟩ := HL.out j _ hz1
      have X0 := cell_later KB.out X0
      have X1 := cell_later KB.out X1
      have X2 := cell_later KB.out X2
      have X3 := cell_later KB.out X3
      obtain ⟨su1, cu1, eu1, -⟩ := id M1A
      subst eu1
      have HX := hide_ hz1
      have M1H := hide_ (M1A.later KB.out)
      have hF1 := hide_ (HF.out _ (List.mem_of_getElem? hz1))
      have BB := hide_ (below1 wr (.cells #[.int .i64 a1, .int .i64 b1, .int .i64 c1, (.slice su1 M1.length cu1)] 96))
      clear hz1 M1A
      cases ho : bkR (a1, b1, c1, M1)
      · skip
        have qs := hide_ (fun W (hW : Below wr.heap.size wr W) => bspell_no a1 b1 c1 _ M1 W (M1H.out.later hW) hF1.out ho)
        clear ho
        go_wp2_with (first | (go_at_call 65; refine (qs.out _ BB.out).mono ?_; rintro e w5 ⟨rfl, b5⟩))
        go_ret2
        exact ⟨rfl, KB.out.trans ((BB.out.trans (b5.mono BB.out.size)).mono KB.out.size)⟩
      · skip
        have qs := hide_ (fun W (hW : Below wr.heap.size wr W) => bspell_yes a1 b1 c1 _ M1 W (M1H.out.later hW) hF1.out ho)
        have HO := hide_ ho
        have HN6 : Hid (nb + (bkE (a1, b1, c1, M1)).length ≤ 1000000) := hide_ (by
          have h1 := bkE_le (o := (a1, b1, c1, M1)) hF1.out ho
          have h2 := encK_len (L.take j) (fun o h => HF.out o (List.mem_of_mem_take h)) HA.out
          rw [← HE.out, HNB.out, List.length_take] at h2
          have h3 : min j L.length ≤ 100 := by have := H100.out; omega
          omega)
        clear ho
        have HE8 := hide_ (encK_take HX.out)
        obtain ⟨E1, hE1⟩ : ∃ E1, bkE (a1, b1, c1, M1) = E1 := ⟨_, rfl⟩
        rw [hE1] at qs HN6 HE8
        obtain ⟨n5, hn5⟩ : ∃ n5, E1.length = n5 := ⟨_, rfl⟩
        have HN5 := hide_ hn5
        clear hE1 hn5
        go_wp2_with (first | (go_at_call 65; refine (qs.out _ BB.out).mono ?_; rintro e w5 ⟨r5, rfl, hO5, b5⟩; obtain ⟨s5, c5, hr5⟩ := own_sliceB hO5; rw [HN5.out] at hr5; subst hr5; have j5 := hide_ (BB.out.trans (b5.mono BB.out.size)); have HO5 := hide_ hO5; clear hO5 b5) | (at_builtin; refine wpList_append_ownB rfl (.tmp 25) (.tmp 26) 24 rfl w.heap.size 5 i0 Try.underlying24 HI.out.1 HI.out.2.1 HI.out.2.2.1 HI.out.2.2.2 (.slice sb nb cb) nb (u8s EJ) (by simp [Act.eval, Act.put]) (by have := (HOw.out.later j5.out).1; rw [HNB.out] at this; exact this) (.slice s5 n5 c5) E1 (by simp [Act.eval, Act.put]) HO5.out.bytes (by have := HN6.out; omega) (Nat.le_trans KB.out.size j5.out.size) ?_; intro v8 w8 ho8 hg8; have O8 := hide_ ((HOw.out.later j5.out).grow HO5.out.2 (by rw [HNB.out]; exact ho8)); have k8 := hide_ ((KB.out.trans (j5.out.mono KB.out.size)).trans ((HOw.out.later j5.out).growB hg8 (Nat.le_refl _) (Nat.le_trans KB.out.size j5.out.size))); clear ho8 hg8))
        obtain ⟨s8, c8, hv8⟩ := own_sliceB O8.out
        subst hv8
        obtain ⟨n8, hn8⟩ : ∃ n8, (EJ ++ E1).length = n8 := ⟨_, rfl⟩
        rw [hn8] at O8 ⊢
        have HN8 := hide_ hn8
        clear hn8
        try go_wp2
        go_roundw
        case rel => exact ⟨j + 1, s8, n8, c8, EJ ++ E1, by omega, by go_num, rfl, hide_ (by rw [HE8.out, HE.out]), HN8, O8, hide_ (all_take_snoc HA.out HX.out HO.out), k8⟩
        case measure => simp [intOf]; omega
    · exfalso
      have h := HA.out
      rw [List.take_of_length_le (by omega), HR.out] at h
      cases h

set_option maxRecDepth 100000 in
set_option maxHeartbeats 8000000 in
theorem be_yes (v : Value) (L : List BK) (w : World) (hL : BuckAt w v L) (hF : BFit L) (h100 : L.length ≤ 100) (hr : L.all bkR = true) (h6 : (encK L).length ≤ 60000) :
    Calls Try.prog 30 #[v] w fun e w' => (∃ r, e = .returned (.tuple #[r, .int .i64 0]) ∧ OwnB w' w.heap.size r (encK L)) ∧ Below w.heap.size w w' := by
  obtain ⟨s, cap, rfl, h1, h2, h3, h4⟩ := hL
  have HL := hide_ h4
  have HF := hide_ hF
  have H100 := hide_ h100
  have HR := hide_ hr
  have hm : L.length ≤ 9223372036854775807 := by omega
  have hg : ¬ (100 : Int) < (L.length : Int) := by omega
  have H6 := hide_ h6
  clear h6
  obtain ⟨i0, hi0, hz0, hz1, hz2⟩ := info_parts info5
  have HI : Hid (Try.prog.info? 5 = some i0 ∧ i0.zero = some (.int .u8 0) ∧ i0.size = 1 ∧ i0.bytes = 1) := ⟨hi0, hz0, hz1, hz2⟩
  clear hi0 hz0 hz1 hz2 h1 h2 h3 h4 hF h100 hr
  go_enter Try.func30, Try.ntmps30
  go_wp2
  go_loopw [4, 6, 7, 8, 14] (fun b _ _ _ i wr => ∃ (j : Nat) (sb : Option Addr) (nb cb : Nat) (EJ : List Int), j ≤ L.length ∧ i = .int .i64 (j : Int) ∧ b = .slice sb nb cb ∧ Hid (EJ = encK (L.take j)) ∧ Hid (EJ.length = nb) ∧ Hid (OwnB wr w.heap.size (.slice sb nb cb) EJ) ∧ Hid ((L.take j).all bkR = true) ∧ Hid (Below w.heap.size w wr)) (fun _ _ _ _ i _ => L.length - (intOf i).toNat)
  case atStart => exact ⟨0, none, 0, 0, [], Nat.zero_le _, rfl, rfl, hide_ rfl, hide_ rfl, hide_ (own_nilB _ _), hide_ rfl, hide_ (Below.refl _ _)⟩
  case round =>
    obtain ⟨j, sb, nb, cb, EJ, hj, rfl, rfl, HE, HNB, HOw, HA, KB⟩ := hrel
    by_cases hlt : j < L.length
    · have hlt' : (j : Int) < (L.length : Int) := by omega
      have hj0 : (0 : Int) ≤ (j : Int) := by omega
      obtain ⟨⟨a1, b1, c1, M1⟩, hz1⟩ : ∃ z, L[j]? = some z := ⟨_, List.getElem?_eq_getElem hlt⟩
      obtain ⟨bq1, off1, u1, rfl, X0, X1, X2, X3, M1A⟩ := HL.out j _ hz1
      have X0 := cell_later KB.out X0
      have X1 := cell_later KB.out X1
      have X2 := cell_later KB.out X2
      have X3 := cell_later KB.out X3
      obtain ⟨su1, cu1, eu1, -⟩ := id M1A
      subst eu1
      have HX := hide_ hz1
      have M1H := hide_ (M1A.later KB.out)
      have hF1 := hide_ (HF.out _ (List.mem_of_getElem? hz1))
      have BB := hide_ (below1 wr (.cells #[.int .i64 a1, .int .i64 b1, .int .i64 c1, (.slice su1 M1.length cu1)] 96))
      clear hz1 M1A
      cases ho : bkR (a1, b1, c1, M1)
      · exfalso
        have h := all_no HX.out ho
        rw [HR.out] at h
        cases h
      · skip
        have qs := hide_ (fun W (hW : Below wr.heap.size wr W) => bspell_yes a1 b1 c1 _ M1 W (M1H.out.later hW) hF1.out ho)
        have HO := hide_ ho
        have HN6 : Hid (nb + (bkE (a1, b1, c1, M1)).length ≤ 1000000) := hide_ (by
          have h1 := bkE_le (o := (a1, b1, c1, M1)) hF1.out ho
          have h2 := encK_len (L.take j) (fun o h => HF.out o (List.mem_of_mem_take h)) HA.out
          rw [← HE.out, HNB.out, List.length_take] at h2
          have h3 : min j L.length ≤ 100 := by have := H100.out; omega
          omega)
        clear ho
        have HE8 := hide_ (encK_take HX.out)
        obtain ⟨E1, hE1⟩ : ∃ E1, bkE (a1, b1, c1, M1) = E1 := ⟨_, rfl⟩
        rw [hE1] at qs HN6 HE8
        obtain ⟨n5, hn5⟩ : ∃ n5, E1.length = n5 := ⟨_, rfl⟩
        have HN5 := hide_ hn5
        clear hE1 hn5
        go_wp2_with (first | (go_at_call 65; refine (qs.out _ BB.out).mono ?_; rintro e w5 ⟨r5, rfl, hO5, b5⟩; obtain ⟨s5, c5, hr5⟩ := own_sliceB hO5; rw [HN5.out] at hr5; subst hr5; have j5 := hide_ (BB.out.trans (b5.mono BB.out.size)); have HO5 := hide_ hO5; clear hO5 b5) | (at_builtin; refine wpList_append_ownB rfl (.tmp 25) (.tmp 26) 24 rfl w.heap.size 5 i0 Try.underlying24 HI.out.1 HI.out.2.1 HI.out.2.2.1 HI.out.2.2.2 (.slice sb nb cb) nb (u8s EJ) (by simp [Act.eval, Act.put]) (by have := (HOw.out.later j5.out).1; rw [HNB.out] at this; exact this) (.slice s5 n5 c5) E1 (by simp [Act.eval, Act.put]) HO5.out.bytes (by have := HN6.out; omega) (Nat.le_trans KB.out.size j5.out.size) ?_; intro v8 w8 ho8 hg8; have O8 := hide_ ((HOw.out.later j5.out).grow HO5.out.2 (by rw [HNB.out]; exact ho8)); have k8 := hide_ ((KB.out.trans (j5.out.mono KB.out.size)).trans ((HOw.out.later j5.out).growB hg8 (Nat.le_refl _) (Nat.le_trans KB.out.size j5.out.size))); clear ho8 hg8))
        obtain ⟨s8, c8, hv8⟩ := own_sliceB O8.out
        subst hv8
        obtain ⟨n8, hn8⟩ : ∃ n8, (EJ ++ E1).length = n8 := ⟨_, rfl⟩
        rw [hn8] at O8 ⊢
        have HN8 := hide_ hn8
        clear hn8
        try go_wp2
        go_roundw
        case rel => exact ⟨j + 1, s8, n8, c8, EJ ++ E1, by omega, by go_num, rfl, hide_ (by rw [HE8.out, HE.out]), HN8, O8, hide_ (all_take_snoc HA.out HX.out HO.out), k8⟩
        case measure => simp [intOf]; omega
    · have hlt' : ¬ (j : Int) < (L.length : Int) := by omega
      have e : EJ = encK L := by rw [HE.out, List.take_of_length_le (by omega)]
      have g6 : ¬ (60000 : Int) < (nb : Int) := by
        have h1 := H6.out
        rw [← e, HNB.out] at h1
        omega
      have HEE := hide_ e
      clear e
      go_wp2
      go_ret2
      exact ⟨⟨_, rfl, HEE.out ▸ HOw.out⟩, KB.out⟩

set_option maxRecDepth 100000 in
set_option maxHeartbeats 8000000 in
theorem be_long (v : Value) (L : List BK) (w : World) (hL : BuckAt w v L) (hF : BFit L) (h100 : L.length ≤ 100) (hr : L.all bkR = true) (h6 : 60000 < (encK L).length) :
    Calls Try.prog 30 #[v] w fun e w' => e = .returned (.tuple #[.slice none 0 0, .int .i64 1]) ∧ Below w.heap.size w w' := by
  obtain ⟨s, cap, rfl, h1, h2, h3, h4⟩ := hL
  have HL := hide_ h4
  have HF := hide_ hF
  have H100 := hide_ h100
  have HR := hide_ hr
  have hm : L.length ≤ 9223372036854775807 := by omega
  have hg : ¬ (100 : Int) < (L.length : Int) := by omega
  have H6 := hide_ h6
  clear h6
  obtain ⟨i0, hi0, hz0, hz1, hz2⟩ := info_parts info5
  have HI : Hid (Try.prog.info? 5 = some i0 ∧ i0.zero = some (.int .u8 0) ∧ i0.size = 1 ∧ i0.bytes = 1) := ⟨hi0, hz0, hz1, hz2⟩
  clear hi0 hz0 hz1 hz2 h1 h2 h3 h4 hF h100 hr
  go_enter Try.func30, Try.ntmps30
  go_wp2
  go_loopw [4, 6, 7, 8, 14] (fun b _ _ _ i wr => ∃ (j : Nat) (sb : Option Addr) (nb cb : Nat) (EJ : List Int), j ≤ L.length ∧ i = .int .i64 (j : Int) ∧ b = .slice sb nb cb ∧ Hid (EJ = encK (L.take j)) ∧ Hid (EJ.length = nb) ∧ Hid (OwnB wr w.heap.size (.slice sb nb cb) EJ) ∧ Hid ((L.take j).all bkR = true) ∧ Hid (Below w.heap.size w wr)) (fun _ _ _ _ i _ => L.length - (intOf i).toNat)
  case atStart => exact ⟨0, none, 0, 0, [], Nat.zero_le _, rfl, rfl, hide_ rfl, hide_ rfl, hide_ (own_nilB _ _), hide_ rfl, hide_ (Below.refl _ _)⟩
  case round =>
    obtain ⟨j, sb, nb, cb, EJ, hj, rfl, rfl, HE, HNB, HOw, HA, KB⟩ := hrel
    by_cases hlt : j < L.length
    · have hlt' : (j : Int) < (L.length : Int) := by omega
      have hj0 : (0 : Int) ≤ (j : Int) := by omega
      obtain ⟨⟨a1, b1, c1, M1⟩, hz1⟩ : ∃ z, L[j]? = some z := ⟨_, List.getElem?_eq_getElem hlt⟩
      obtain ⟨bq1, off1, u1, rfl, X0, X1, X2, X3, M1A⟩ := HL.out j _ hz1
      have X0 := cell_later KB.out X0
      have X1 := cell_later KB.out X1
      have X2 := cell_later KB.out X2
      have X3 := cell_later KB.out X3
      obtain ⟨su1, cu1, eu1, -⟩ := id M1A
      subst eu1
      have HX := hide_ hz1
      have M1H := hide_ (M1A.later KB.out)
      have hF1 := hide_ (HF.out _ (List.mem_of_getElem? hz1))
      have BB := hide_ (below1 wr (.cells #[.int .i64 a1, .int .i64 b1, .int .i64 c1, (.slice su1 M1.length cu1)] 96))
      clear hz1 M1A
      cases ho : bkR (a1, b1, c1, M1)
      · exfalso
        have h := all_no HX.out ho
        rw [HR.out] at h
        cases h
      · skip
        have qs := hide_ (fun W (hW : Below wr.heap.size wr W) => bspell_yes a1 b1 c1 _ M1 W (M1H.out.later hW) hF1.out ho)
        have HO := hide_ ho
        have HN6 : Hid (nb + (bkE (a1, b1, c1, M1)).length ≤ 1000000) := hide_ (by
          have h1 := bkE_le (o := (a1, b1, c1, M1)) hF1.out ho
          have h2 := encK_len (L.take j) (fun o h => HF.out o (List.mem_of_mem_take h)) HA.out
          rw [← HE.out, HNB.out, List.length_take] at h2
          have h3 : min j L.length ≤ 100 := by have := H100.out; omega
          omega)
        clear ho
        have HE8 := hide_ (encK_take HX.out)
        obtain ⟨E1, hE1⟩ : ∃ E1, bkE (a1, b1, c1, M1) = E1 := ⟨_, rfl⟩
        rw [hE1] at qs HN6 HE8
        obtain ⟨n5, hn5⟩ : ∃ n5, E1.length = n5 := ⟨_, rfl⟩
        have HN5 := hide_ hn5
        clear hE1 hn5
        go_wp2_with (first | (go_at_call 65; refine (qs.out _ BB.out).mono ?_; rintro e w5 ⟨r5, rfl, hO5, b5⟩; obtain ⟨s5, c5, hr5⟩ := own_sliceB hO5; rw [HN5.out] at hr5; subst hr5; have j5 := hide_ (BB.out.trans (b5.mono BB.out.size)); have HO5 := hide_ hO5; clear hO5 b5) | (at_builtin; refine wpList_append_ownB rfl (.tmp 25) (.tmp 26) 24 rfl w.heap.size 5 i0 Try.underlying24 HI.out.1 HI.out.2.1 HI.out.2.2.1 HI.out.2.2.2 (.slice sb nb cb) nb (u8s EJ) (by simp [Act.eval, Act.put]) (by have := (HOw.out.later j5.out).1; rw [HNB.out] at this; exact this) (.slice s5 n5 c5) E1 (by simp [Act.eval, Act.put]) HO5.out.bytes (by have := HN6.out; omega) (Nat.le_trans KB.out.size j5.out.size) ?_; intro v8 w8 ho8 hg8; have O8 := hide_ ((HOw.out.later j5.out).grow HO5.out.2 (by rw [HNB.out]; exact ho8)); have k8 := hide_ ((KB.out.trans (j5.out.mono KB.out.size)).trans ((HOw.out.later j5.out).growB hg8 (Nat.le_refl _) (Nat.le_trans KB.out.size j5.out.size))); clear ho8 hg8))
        obtain ⟨s8, c8, hv8⟩ := own_sliceB O8.out
        subst hv8
        obtain ⟨n8, hn8⟩ : ∃ n8, (EJ ++ E1).length = n8 := ⟨_, rfl⟩
        rw [hn8] at O8 ⊢
        have HN8 := hide_ hn8
        clear hn8
        try go_wp2
        go_roundw
        case rel => exact ⟨j + 1, s8, n8, c8, EJ ++ E1, by omega, by go_num, rfl, hide_ (by rw [HE8.out, HE.out]), HN8, O8, hide_ (all_take_snoc HA.out HX.out HO.out), k8⟩
        case measure => simp [intOf]; omega
    · have hlt' : ¬ (j : Int) < (L.length : Int) := by omega
      have e : EJ = encK L := by rw [HE.out, List.take_of_length_le (by omega)]
      have g6 : (60000 : Int) < (nb : Int) := by
        have h1 := H6.out
        rw [← e, HNB.out] at h1
        omega
      have HEE := hide_ e
      clear e
      go_wp2
      go_ret2
      exact ⟨rfl, KB.out⟩

/-- what bucket.Encode answers -/
def bencR (L : List BK) (B : List Int) (er : Int) : Prop := (L.length ≤ 100 ∧ L.all bkR = true ∧ (encK L).length ≤ 60000 ∧ B = encK L ∧ er = 0) ∨ (¬ (L.length ≤ 100 ∧ L.all bkR = true ∧ (encK L).length ≤ 60000) ∧ B = [] ∧ er = 1)
theorem bencR_some (L : List BK) : ∃ B er, bencR L B er := by
  by_cases h : L.length ≤ 100 ∧ L.all bkR = true ∧ (encK L).length ≤ 60000
  · exact ⟨_, _, .inl ⟨h.1, h.2.1, h.2.2, rfl, rfl⟩⟩
  · exact ⟨_, _, .inr ⟨h, rfl, rfl⟩⟩
theorem be_all {v : Value} {L : List BK} {B : List Int} {er : Int} {w : World} (hL : BuckAt w v L) (hF : BFit L) (h : bencR L B er) : Calls Try.prog 30 #[v] w fun e w' => ∃ r, e = .returned (.tuple #[r, .int .i64 er]) ∧ OwnB w' w.heap.size r B ∧ Below w.heap.size w w' := by
  rcases h with ⟨h1, h2, h3, rfl, rfl⟩ | ⟨h, rfl, rfl⟩
  · exact (be_yes v L w hL hF h1 h2 h3).mono fun e w' ⟨⟨r, h1, h2⟩, h3⟩ => ⟨r, h1, h2, h3⟩
  · have key : ∀ (e : Ending) (w' : World), e = .returned (.tuple #[.slice none 0 0, .int .i64 1]) ∧ Below w.heap.size w w' → ∃ r, e = .returned (.tuple #[r, .int .i64 1]) ∧ OwnB w' w.heap.size r [] ∧ Below w.heap.size w w' := fun e w' he => ⟨_, he.1, own_nilB _ _, he.2⟩
    by_cases h100 : L.length ≤ 100
    · cases hr : L.all bkR
      · exact (be_no v L w hL hF h100 hr).mono key
      · exact (be_long v L w hL hF h100 hr (by
          apply Nat.lt_of_not_le
          intro h6
          exact h ⟨h100, hr, h6⟩)).mono key
    · exact (be_big v L w hL (by omega)).mono key
end

end Go.Proofs.Ytcbkghbfalfkhaa
