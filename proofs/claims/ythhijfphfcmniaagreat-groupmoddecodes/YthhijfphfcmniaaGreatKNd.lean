import Derived.Test.YthhijfphfcmniaaGreatXcd
import Derived.Test.YthhijfphfcmniaaGreatJAd
import Derived.Test.YthhijfphfcmniaaGreatJTd
import Derived.Test.YthhijfphfcmniaaGreatZzd
import Derived.WalkKit
import Derived.WalkSpells
import Derived.WalkLawsBesides
import Derived.Below
import Derived.Handy
import Derived.Deep.RegionHeld3
import Derived.Deep.RegionWith
import Derived.Deep.MidRow
import Derived.Deep.Cut
namespace Go.Proofs.YthhijfphfcmniaaGreat
section
open Go Go.RowKit
set_option linter.unusedVariables false
set_option linter.unusedSimpArgs false

theorem spl_isB (n s : Int) (hr : rightB n s = true) : isB (spl n s) := by
  simp only [rightB, Bool.and_eq_true, decide_eq_true_eq] at hr
  obtain ⟨hs, h0, h1⟩ := hr
  rcases szB_true hs with rfl | rfl | rfl
  · intro z hz; simp [spl] at hz; omega
  · intro z hz; simp [spl] at hz; omega
  · have h1 : n < 4294967296 := by simpa [lim] using h1
    intro z hz; simp [spl] at hz; omega
end

section
open Go Go.RowKit
set_option linter.unusedVariables false
set_option linter.unusedSimpArgs false

/-- a bucket: its numbers, its actions -/
abbrev BK := Int × Int × Int × List A11
def bkN (o : BK) : Bool := rightB o.1 2 && (rightB o.2.1 4 && rightB o.2.2.1 4)
def bkA (o : BK) : Bool := decide (o.2.2.2.length ≤ 100) && o.2.2.2.all artO
def bkR (o : BK) : Bool := bkA o && bkN o
def bkE (o : BK) : List Int := [] ++ spl ((16 + (encA o.2.2.2).length : Nat) : Int) 2 ++ spl o.1 2 ++ spl o.2.1 4 ++ spl o.2.2.1 4 ++ List.replicate 4 0 ++ encA o.2.2.2
theorem AB.k4 {w : World} {g : Nat} {ty : TypeId} {a b c d : Value} (h : AB w g ty [a, b, c, d]) : w.cell? ⟨g, 0, none⟩ = some a ∧ w.cell? ⟨g, 1, none⟩ = some b ∧ w.cell? ⟨g, 2, none⟩ = some c ∧ w.cell? ⟨g, 3, none⟩ = some d ∧ w.frozen? ⟨g, 0, none⟩ = false ∧ w.frozen? ⟨g, 1, none⟩ = false ∧ w.frozen? ⟨g, 2, none⟩ = false ∧ w.frozen? ⟨g, 3, none⟩ = false :=
  ⟨(h.cell (j := 0) rfl).1, (h.cell (j := 1) rfl).1, (h.cell (j := 2) rfl).1, (h.cell (j := 3) rfl).1, (h.cell (j := 0) rfl).2, (h.cell (j := 1) rfl).2, (h.cell (j := 2) rfl).2, (h.cell (j := 3) rfl).2⟩
theorem AB.setk4 {w : World} {g : Nat} {ty : TypeId} {a b c d : Value} (h : AB w g ty [a, b, c, d]) (x y z u : Value) : AB ((((w.setCell ⟨g, 0, none⟩ x).setCell ⟨g, 1, none⟩ y).setCell ⟨g, 2, none⟩ z).setCell ⟨g, 3, none⟩ u) g ty [x, y, z, u] := (((h.set (j := 0) x).set (j := 1) y).set (j := 2) z).set (j := 3) u
theorem below_setk4 {w0 w : World} {g n : Nat} (h : Below n w0 w) (hg : n ≤ g) (x y z u : Value) : Below n w0 ((((w.setCell ⟨g, 0, none⟩ x).setCell ⟨g, 1, none⟩ y).setCell ⟨g, 2, none⟩ z).setCell ⟨g, 3, none⟩ u) := (((h.setCell hg x).setCell hg y).setCell hg z).setCell hg u
/-- what acts.Encode answers -/
def encR (L : List A11) (B : List Int) (er : Int) : Prop := (L.length ≤ 100 ∧ L.all artO = true ∧ B = encA L ∧ er = 0) ∨ (¬ (L.length ≤ 100 ∧ L.all artO = true) ∧ B = [] ∧ er = 1)
theorem encR_some (L : List A11) : ∃ B er, encR L B er := by
  by_cases h : L.length ≤ 100 ∧ L.all artO = true
  · exact ⟨_, _, .inl ⟨h.1, h.2, rfl, rfl⟩⟩
  · exact ⟨_, _, .inr ⟨h, rfl, rfl⟩⟩
theorem own_nilB (w : World) (base : Nat) : OwnB w base (.slice none 0 0) [] := ⟨World.ownsRow_nil _ _ _ _, fun z hz => by cases hz⟩
theorem le_all {v : Value} {L : List A11} {B : List Int} {er : Int} {w : World} (hL : ActAt w v L) (hF : AFit L) (h : encR L B er) : Calls Tryz.prog 49 #[v] w fun e w' => ∃ r, e = .returned (.tuple #[r, .int .i64 er]) ∧ OwnB w' w.heap.size r B ∧ Below w.heap.size w w' := by
  rcases h with ⟨h1, h2, rfl, rfl⟩ | ⟨h, rfl, rfl⟩
  · exact le_yes v L w hL hF h1 h2
  · have key : ∀ (e : Ending) (w' : World), e = .returned (.tuple #[.slice none 0 0, .int .i64 1]) ∧ Below w.heap.size w w' → ∃ r, e = .returned (.tuple #[r, .int .i64 1]) ∧ OwnB w' w.heap.size r [] ∧ Below w.heap.size w w' := fun e w' he => ⟨_, he.1, own_nilB _ _, he.2⟩
    by_cases h100 : L.length ≤ 100
    · have h3 : L.all artO = false := by
        cases hh : L.all artO
        · rfl
        · exact absurd ⟨h100, hh⟩ h
      exact (le_no v L w hL hF h100 h3).mono key
    · exact (le_big v L w hL (by omega)).mono key
theorem encA_6000 {L : List A11} (hF : AFit L) (h1 : L.length ≤ 100) (h2 : L.all artO = true) : (encA L).length ≤ 6000 := by
  have := encA_len L hF h2
  omega
theorem put_ownK (v : Value) (l : List Int) (n s : Int) (w : World) (hB : Bytes w v l) (hl : l.length ≤ 1000) (hr : rightB n s = true) (hs : isB (spl n s)) :
    Calls Tryz.prog 73 #[v, .int .i64 n, .int .i64 s] w fun e w' => ∃ r, e = .returned r ∧ OwnB w' w.heap.size r (l ++ spl n s) ∧ Below w.heap.size w w' :=
  (put_any v l n s w hB (by omega) hr).mono fun e w' ⟨r, h1, h2, h3⟩ => ⟨r, h1, ⟨h2, by
    obtain ⟨_, _, _, _, _, hb, _⟩ := hB
    exact hb.app hs⟩, h3⟩
theorem own_zeros4 {w w' : World} {base n nn : Nat} {v v' : Value} {l : List Int} (h : OwnB w base v l) (hl : l.length = n) (ho : w'.ownsRow base 5 1 v' (n + 4) (u8s (l ++ List.replicate 4 0))) (hg : w.grownBy w' v.ownBlock) (h1 : nn ≤ base) (h2 : nn ≤ w.heap.size) :
    OwnB w' base v' (l ++ List.replicate 4 0) ∧ Below nn w w' :=
  ⟨⟨by rw [List.length_append, List.length_replicate, hl]; exact ho, h.2.app (isB_zeros 4)⟩, h.growB hg h1 h2⟩
theorem own_sliceB {w : World} {base : Nat} {v : Value} {l : List Int} (h : OwnB w base v l) : ∃ s c, v = .slice s l.length c := by
  rcases h.1.2 with ⟨rfl, hn⟩ | ⟨g, cap, cur, rfl, _⟩
  · exact ⟨none, 0, by rw [hn]⟩
  · exact ⟨_, _, rfl⟩

set_option maxRecDepth 100000 in
set_option maxHeartbeats 8000000 in
theorem bspell_no (a b c : Int) (u : Value) (L : List A11) (w : World) (hL : ActAt w u L) (hF : AFit L) (h : bkR (a, b, c, L) = false) :
    Calls Tryz.prog 126 #[.agg #[.int .i64 a, .int .i64 b, .int .i64 c, u]] w fun e w' => e = .returned (.tuple #[.slice none 0 0, .bool false]) ∧ Below w.heap.size w w' := by
  obtain ⟨B, er, hB⟩ := encR_some L
  have A0 := hide_ (AB.at0 w 87 [.int .i64 a, .int .i64 b, .int .i64 c, u])
  have B0 := hide_ (below1 w (.cells #[.int .i64 a, .int .i64 b, .int .i64 c, u] 87))
  have qe := hide_ (fun W (hb : Below w.heap.size w W) => le_all (hL.later hb) hF hB)
  obtain ⟨x0, x1, x2, x3, -⟩ := A0.out.k4
  have hc : er = 1 ∨ (er = 0 ∧ (rightB a 2 = false ∨ (rightB a 2 = true ∧ (rightB b 4 = false ∨ (rightB b 4 = true ∧ rightB c 4 = false))))) := by
    rcases hB with ⟨h1, h2, rfl, rfl⟩ | ⟨-, -, rfl⟩
    · refine .inr ⟨rfl, ?_⟩
      have e : bkA (a, b, c, L) = true := by show (decide (L.length ≤ 100) && L.all artO) = true; rw [h2, decide_eq_true h1]; rfl
      have hn : (rightB a 2 && (rightB b 4 && rightB c 4)) = false := by
        unfold bkR at h
        rw [e, Bool.true_and] at h
        exact h
      revert hn
      cases rightB a 2 <;> cases rightB b 4 <;> cases rightB c 4 <;> decide
    · exact .inl rfl
  clear hL hF h hB
  rcases hc with rfl | ⟨rfl, h1 | ⟨h1, h2 | ⟨h2, h3⟩⟩⟩
  all_goals
    go_enter Tryz.func126, Tryz.ntmps126
    go_wp2_with (first | (go_at_call 49; refine (qe.out _ B0.out).mono ?_; rintro e w2 ⟨r, rfl, hO, b2⟩; obtain ⟨s2, c2, rfl⟩ := own_sliceB hO; have HO := hide_ hO; have k2 := hide_ (B0.out.trans (b2.mono B0.out.size)); obtain ⟨x0, x1, x2, x3, -⟩ := (A0.out.later b2).k4; have A2 := hide_ (A0.out.later b2); clear hO b2) | (go_at_call 98; refine (right_any _ _ _).mono ?_; rintro e w9 ⟨rfl, rfl⟩))
    go_ret2
    exact ⟨rfl, k2.out⟩

set_option maxRecDepth 100000 in
set_option maxHeartbeats 8000000 in
theorem bspell_yes (a b c : Int) (u : Value) (L : List A11) (w : World) (hL : ActAt w u L) (hF : AFit L) (h : bkR (a, b, c, L) = true) :
    Calls Tryz.prog 126 #[.agg #[.int .i64 a, .int .i64 b, .int .i64 c, u]] w fun e w' => ∃ r, e = .returned (.tuple #[r, .bool true]) ∧ OwnB w' w.heap.size r (bkE (a, b, c, L)) ∧ Below w.heap.size w w' := by
  have hk : bkA (a, b, c, L) = true ∧ bkN (a, b, c, L) = true := by unfold bkR at h; rwa [Bool.and_eq_true] at h
  have hk1 : decide (L.length ≤ 100) = true ∧ L.all artO = true := by have := hk.1; unfold bkA at this; rwa [Bool.and_eq_true] at this
  have h100 : L.length ≤ 100 := by simpa using hk1.1
  have hk2 : rightB a 2 = true ∧ (rightB b 4 && rightB c 4) = true := by have := hk.2; unfold bkN at this; rwa [Bool.and_eq_true] at this
  have h1 := hk2.1
  have hk3 : rightB b 4 = true ∧ rightB c 4 = true := by have := hk2.2; rwa [Bool.and_eq_true] at this
  have h2 := hk3.1
  have h3 := hk3.2
  have hlen := encA_6000 hF h100 hk1.2
  have A0 := hide_ (AB.at0 w 87 [.int .i64 a, .int .i64 b, .int .i64 c, u])
  have B0 := hide_ (below1 w (.cells #[.int .i64 a, .int .i64 b, .int .i64 c, u] 87))
  have qe := fun W (hb : Below w.heap.size w W) => le_yes u L W (hL.later hb) hF h100 hk1.2
  have hE : bkE (a, b, c, L) = [] ++ spl (16 + ((encA L).length : Int)) 2 ++ spl a 2 ++ spl b 4 ++ spl c 4 ++ List.replicate 4 0 ++ encA L := by
    show [] ++ spl ((16 + (encA L).length : Nat) : Int) 2 ++ _ ++ _ ++ _ ++ _ ++ _ = _
    rw [Int.natCast_add]; rfl
  rw [hE]
  obtain ⟨x0, x1, x2, x3, -⟩ := A0.out.k4
  generalize encA L = B at *
  obtain ⟨nn, hnn⟩ : ∃ nn, B.length = nn := ⟨_, rfl⟩
  have HNB := hide_ hnn
  rw [hnn] at hlen ⊢
  have h0 : rightB (16 + (nn : Int)) 2 = true := rightB_in2 (by omega) (by omega)
  have hw0 : IntKind.i64.wrap (16 + (nn : Int)) = 16 + (nn : Int) := by rw [IntKind.wrap_i64]; omega
  obtain ⟨P1, hP1⟩ : ∃ P, [] ++ spl (16 + (nn : Int)) 2 = P := ⟨_, rfl⟩
  obtain ⟨P2, hP2⟩ : ∃ P, P1 ++ spl a 2 = P := ⟨_, rfl⟩
  obtain ⟨P3, hP3⟩ : ∃ P, P2 ++ spl b 4 = P := ⟨_, rfl⟩
  obtain ⟨P4, hP4⟩ : ∃ P, P3 ++ spl c 4 = P := ⟨_, rfl⟩
  obtain ⟨PZ, hPZ⟩ : ∃ P, P4 ++ List.replicate 4 (0 : Int) = P := ⟨_, rfl⟩
  have hL1 : P1.length = 2 := by rw [← hP1]; simp [spl_len2]
  have hL2 : P2.length = 4 := by rw [← hP2, List.length_append, hL1, spl_len2]
  have hL3 : P3.length = 8 := by rw [← hP3, List.length_append, hL2, spl_len4]
  have hL4 : P4.length = 12 := by rw [← hP4, List.length_append, hL3, spl_len4]
  have hLZ : PZ.length = 16 := by rw [← hPZ, List.length_append, hL4, List.length_replicate]
  rw [hP1, hP2, hP3, hP4, hPZ]
  have HP1 := hide_ hP1
  have HP2 := hide_ hP2
  have HP3 := hide_ hP3
  have HP4 := hide_ hP4
  have HPZ := hide_ hPZ
  have HL1 := hide_ hL1
  have HL2 := hide_ hL2
  have HL3 := hide_ hL3
  have HL4 := hide_ hL4
  have HLZ := hide_ hLZ
  have qe := hide_ qe
  have h3x := hide_ h3
  obtain ⟨i0, hi0, hz0, hz1, hz2⟩ := info_parts info5
  have HI : Hid (Tryz.prog.info? 5 = some i0 ∧ i0.zero = some (.int .u8 0) ∧ i0.size = 1 ∧ i0.bytes = 1) := ⟨hi0, hz0, hz1, hz2⟩
  clear hi0 hz0 hz1 hz2 hL hF h hk hk1 hk2 hk3 h100 hE hnn hP1 hP2 hP3 hP4 hPZ hL1 hL2 hL3 hL4 hLZ
  go_enter Tryz.func126, Tryz.ntmps126
  go_wp2_with (first | (go_at_call 49; refine (qe.out _ B0.out).mono ?_; rintro e w2 ⟨r, rfl, hO, b2⟩; obtain ⟨sB, cB, hrB⟩ := own_sliceB hO; rw [HNB.out] at hrB; subst hrB; have HB2 := hide_ hO; have k2 := hide_ (B0.out.trans (b2.mono B0.out.size)); obtain ⟨x0, x1, x2, x3, -⟩ := (A0.out.later b2).k4; have A2 := hide_ (A0.out.later b2); clear hO b2) | (go_at_call 98; refine (right_any _ _ _).mono ?_; rintro e w9 ⟨rfl, rfl⟩) | (go_at_call 73; refine (put_ownK _ P3 c 4 _ HO3.out.bytes (by have := HL3.out; omega) h3 (spl_isB _ _ h3)).mono ?_; rintro e w6 ⟨r4, rfl, hO4, b4⟩; rw [HP4.out] at hO4; obtain ⟨s4, c4, hr4⟩ := own_sliceB hO4; rw [HL4.out] at hr4; subst hr4; have k6 := hide_ (k5.out.trans (b4.mono k5.out.size)); have A6 := hide_ (A5.out.later b4); have HB6 := hide_ (HB5.out.later b4); obtain ⟨y04, y14, y24, y34, -⟩ := A6.out.k4; have HO4 := hide_ hO4; have b4 := hide_ b4; clear hO4) | (go_at_call 73; refine (put_ownK _ P2 b 4 _ HO2.out.bytes (by have := HL2.out; omega) h2 (spl_isB _ _ h2)).mono ?_; rintro e w5 ⟨r3, rfl, hO3, b3⟩; rw [HP3.out] at hO3; obtain ⟨s3, c3, hr3⟩ := own_sliceB hO3; rw [HL3.out] at hr3; subst hr3; have k5 := hide_ (k4.out.trans (b3.mono k4.out.size)); have A5 := hide_ (A4.out.later b3); have HB5 := hide_ (HB4.out.later b3); obtain ⟨y03, y13, y23, y33, -⟩ := A5.out.k4; have HO3 := hide_ hO3; have b3 := hide_ b3; clear hO3) | (go_at_call 73; refine (put_ownK _ P1 a 2 _ HO1.out.bytes (by have := HL1.out; omega) h1 (spl_isB _ _ h1)).mono ?_; rintro e w4 ⟨r2, rfl, hO2, b2⟩; rw [HP2.out] at hO2; obtain ⟨s2, c2, hr2⟩ := own_sliceB hO2; rw [HL2.out] at hr2; subst hr2; have k4 := hide_ (k3.out.trans (b2.mono k3.out.size)); have A4 := hide_ (A3.out.later b2); have HB4 := hide_ (HB3.out.later b2); obtain ⟨y02, y12, y22, y32, -⟩ := A4.out.k4; have HO2 := hide_ hO2; have b2 := hide_ b2; clear hO2) | (go_at_call 73; refine (put_ownK (.slice none 0 0) [] (16 + (nn : Int)) 2 _ (Bytes.nil _) (by simp) h0 (spl_isB _ _ h0)).mono ?_; rintro e w3 ⟨r1, rfl, hO1, b1⟩; rw [HP1.out] at hO1; obtain ⟨s1, c1, hr1⟩ := own_sliceB hO1; rw [HL1.out] at hr1; subst hr1; have k3 := hide_ (k2.out.trans (b1.mono k2.out.size)); have A3 := hide_ (A2.out.later b1); have HB3 := hide_ (HB2.out.later b1); obtain ⟨y01, y11, y21, y31, -⟩ := A3.out.k4; have HO1 := hide_ hO1; have b1 := hide_ b1; clear hO1) | (at_builtin; refine wpList_append_ownB rfl (.tmp 51) (.tmp 52) 25 rfl w5.heap.size 5 i0 Tryz.underlying25 HI.out.1 HI.out.2.1 HI.out.2.2.1 HI.out.2.2.2 (.slice s7 16 c7) 16 (u8s PZ) (by simp [Act.eval, Act.put]) (by have := O7.out.1; rw [HLZ.out] at this; exact this) (.slice sB nn cB) B (by simp [Act.eval, Act.put]) (by have := HB7.out.bytes; exact this) (by have := HNB.out; omega) j7.out.size ?_; intro v8 w8 ho8 hg8; have O8 := hide_ (O7.out.grow HB7.out.2 (by rw [HLZ.out]; exact ho8)); have k8 := hide_ (k7.out.trans (O7.out.growB hg8 k5.out.size k7.out.size)); have h58 : w.heap.size ≤ w5.heap.size := k5.out.size; clear ho8 hg8) | (at_builtin; refine wpList_append_zerosB rfl (.tmp 49) (.const (.int .i64 4)) 25 3 rfl w5.heap.size 5 i0 Tryz.underlying25 Tryz.underlying3 HI.out.1 HI.out.2.1 HI.out.2.2.1 HI.out.2.2.2 (.slice s4 12 c4) 12 P4 (by simp [Act.eval, Act.put]) (by have := HO4.out.1; rw [HL4.out] at this; exact this) (by omega) 4 (by first | rfl | simp [Act.eval, Act.put]) (by omega) b4.out.size ?_; intro v7 w7 ho7 hg7; obtain ⟨O7, bz7⟩ := own_zeros4 (nn := w5.heap.size) HO4.out HL4.out ho7 hg7 (Nat.le_refl _) b4.out.size; rw [HPZ.out] at O7; obtain ⟨s7, c7, hr7⟩ := own_sliceB O7; rw [HLZ.out] at hr7; subst hr7; have j7 := hide_ (b4.out.trans bz7); have O7 := hide_ O7; have HB7 := hide_ (HB5.out.later j7.out); have k7 := hide_ (k5.out.trans (j7.out.mono k5.out.size)); clear ho7 hg7 bz7))
  go_ret2
  exact ⟨_, rfl, O8.out.mono h58, k8.out⟩
end

section
open Go Go.RowKit
set_option linter.unusedVariables false
set_option linter.unusedSimpArgs false

/-- buckets in memory -/
def BuckAt (w : World) (v : Value) (L : List BK) : Prop := ∃ s cap, v = .slice s L.length cap ∧ L.length ≤ cap ∧ cap ≤ maxLen ∧ (s = none → cap = 0) ∧
  ∀ (i : Nat) (o : BK), L[i]? = some o → ∃ q off u, s = some ⟨q, off, none⟩ ∧ w.cell? ⟨q, off + i * 4, none⟩ = some (.int .i64 o.1) ∧ w.cell? ⟨q, off + i * 4 + 1, none⟩ = some (.int .i64 o.2.1) ∧ w.cell? ⟨q, off + i * 4 + 2, none⟩ = some (.int .i64 o.2.2.1) ∧ w.cell? ⟨q, off + i * 4 + 3, none⟩ = some u ∧ ActAt w u o.2.2.2
def BFit (L : List BK) : Prop := ∀ o ∈ L, AFit o.2.2.2
theorem BuckAt.later {w w' : World} {v : Value} {L : List BK} (h : BuckAt w v L) (hb : Below w.heap.size w w') : BuckAt w' v L := by
  obtain ⟨s, cap, rfl, h1, h2, h3, h4⟩ := h
  refine ⟨s, cap, rfl, h1, h2, h3, fun i o hi => ?_⟩
  obtain ⟨q, off, u, e, x0, x1, x2, x3, hu⟩ := h4 i o hi
  exact ⟨q, off, u, e, cell_later hb x0, cell_later hb x1, cell_later hb x2, cell_later hb x3, hu.later hb⟩
theorem BuckAt.nil (w : World) : BuckAt w (.slice none 0 0) [] := ⟨none, 0, rfl, Nat.le_refl _, Nat.zero_le _, fun _ => rfl, fun i o h => by simp at h⟩
def sameB1 (x y : BK) : Bool := decide (x.1 = y.1) && (decide (x.2.1 = y.2.1) && (decide (x.2.2.1 = y.2.2.1) && sameL x.2.2.2 y.2.2.2))
theorem sameB1_iff (x y : BK) : sameB1 x y = true ↔ x = y := by
  obtain ⟨a, b, c, L⟩ := x
  obtain ⟨a2, b2, c2, K⟩ := y
  unfold sameB1
  simp only [Bool.and_eq_true, decide_eq_true_eq, Prod.mk.injEq]
  exact ⟨fun ⟨h1, h2, h3, h4⟩ => ⟨h1, h2, h3, sameL_eq h4⟩, fun ⟨h1, h2, h3, h4⟩ => ⟨h1, h2, h3, sameL_true h4⟩⟩
theorem sameB1_no {x y : BK} (h : sameB1 x y = false) : ¬ x = y := fun e => by rw [(sameB1_iff x y).2 e] at h; cases h
def sameBL : List BK → List BK → Bool
  | [], [] => true
  | x :: r, y :: t => sameB1 x y && sameBL r t
  | _, _ => false
theorem sameBL_iff : ∀ (L K : List BK), sameBL L K = true ↔ L = K
  | [], [] => by simp [sameBL]
  | [], y :: t => by simp [sameBL]
  | x :: r, [] => by simp [sameBL]
  | x :: r, y :: t => by simp [sameBL, sameB1_iff, sameBL_iff r t]
theorem sameBL_true {L K : List BK} (h : L = K) : sameBL L K = true := (sameBL_iff L K).2 h
theorem sameBL_false {L K : List BK} (h : ¬ L = K) : sameBL L K = false := by
  cases e : sameBL L K
  · rfl
  · exact absurd ((sameBL_iff L K).1 e) h
theorem take_sameB {L K : List BK} {k : Nat} {x y : BK} (hT : L.take k = K.take k) (hx : L[k]? = some x) (hy : K[k]? = some y) (e : x = y) : L.take (k + 1) = K.take (k + 1) := by
  rw [List.take_add_one, List.take_add_one, hT, hx, hy, e]
theorem take_diffB {L K : List BK} {k : Nat} {x y : BK} (hx : L[k]? = some x) (hy : K[k]? = some y) (e : ¬ x = y) : ¬ L = K := by
  intro h
  rw [h, hy] at hx
  injection hx with hx
  exact e hx.symm

set_option maxRecDepth 100000 in
set_option maxHeartbeats 8000000 in
theorem bsame_any (a1 b1 c1 : Int) (u1 : Value) (M1 : List A11) (a2 b2 c2 : Int) (u2 : Value) (M2 : List A11) (w : World) (h1 : ActAt w u1 M1) (h2 : ActAt w u2 M2) :
    Calls Tryz.prog 103 #[.agg #[.int .i64 a1, .int .i64 b1, .int .i64 c1, u1], .agg #[.int .i64 a2, .int .i64 b2, .int .i64 c2, u2]] w fun e w' => e = .returned (.bool (sameB1 (a1, b1, c1, M1) (a2, b2, c2, M2))) ∧ Below w.heap.size w w' := by
  have B0 := hide_ (below2 w (.cells #[.int .i64 a1, .int .i64 b1, .int .i64 c1, u1] 87) (.cells #[.int .i64 a2, .int .i64 b2, .int .i64 c2, u2] 87))
  have q := fun W (hb : Below w.heap.size w W) => lsame_any u1 u2 M1 M2 W (h1.later hb) (h2.later hb)
  obtain ⟨x0, x1, x2, x3, -⟩ := ((AB.at0 w 87 [.int .i64 a1, .int .i64 b1, .int .i64 c1, u1]).alloc (.cells #[.int .i64 a2, .int .i64 b2, .int .i64 c2, u2] 87)).k4
  obtain ⟨y0, y1, y2, y3, -⟩ := (AB.at1 w (.cells #[.int .i64 a1, .int .i64 b1, .int .i64 c1, u1] 87) 87 [.int .i64 a2, .int .i64 b2, .int .i64 c2, u2]).k4
  have e : sameB1 (a1, b1, c1, M1) (a2, b2, c2, M2) = (decide (a1 = a2) && (decide (b1 = b2) && (decide (c1 = c2) && sameL M1 M2))) := rfl
  rw [e]
  generalize sameL M1 M2 = z at *
  have q := hide_ q
  clear h1 h2 e
  by_cases e1 : a1 = a2
  · by_cases e2 : b1 = b2
    · by_cases e3 : c1 = c2
      · have d1 : (a1 == a2) = true := by simpa using e1
        have d2 : (b1 == b2) = true := by simpa using e2
        have d3 : (c1 == c2) = true := by simpa using e3
        simp only [e1, e2, e3, decide_true, Bool.true_and] at *
        go_enter Tryz.func103, Tryz.ntmps103
        go_wp2_with (go_at_call 77; refine (q.out _ B0.out).mono ?_; rintro e w5 ⟨rfl, b5⟩)
        go_ret
        exact ⟨rfl, B0.out.trans (b5.mono B0.out.size)⟩
      · have d1 : (a1 == a2) = true := by simpa using e1
        have d2 : (b1 == b2) = true := by simpa using e2
        have d3 : (c1 == c2) = false := by simpa using e3
        rw [decide_eq_true e1, decide_eq_true e2, decide_eq_false e3]
        clear e1 e2 e3
        go_enter Tryz.func103, Tryz.ntmps103
        go_wp2
        go_ret
        exact ⟨rfl, B0.out⟩
    · have d1 : (a1 == a2) = true := by simpa using e1
      have d2 : (b1 == b2) = false := by simpa using e2
      rw [decide_eq_true e1, decide_eq_false e2]
      clear e1 e2
      go_enter Tryz.func103, Tryz.ntmps103
      go_wp2
      go_ret
      exact ⟨rfl, B0.out⟩
  · have d1 : (a1 == a2) = false := by simpa using e1
    rw [decide_eq_false e1]
    clear e1
    go_enter Tryz.func103, Tryz.ntmps103
    go_wp2
    go_ret
    exact ⟨rfl, B0.out⟩

set_option maxRecDepth 100000 in
set_option maxHeartbeats 8000000 in
theorem beqf_any (v u : Value) (L K : List BK) (w : World) (hL : BuckAt w v L) (hK : BuckAt w u K) :
    Calls Tryz.prog 102 #[v, u, (.func (.func 103) #[] #[])] w fun e w' => e = .returned (.bool (sameBL L K)) ∧ Below w.heap.size w w' := by
  obtain ⟨s, cap, rfl, h1, h2, h3, h4⟩ := hL
  obtain ⟨s2, cap2, rfl, k1, k2, k3, k4⟩ := hK
  have HL := hide_ h4
  have HK := hide_ k4
  have hm : L.length ≤ 9223372036854775807 := by unfold maxLen at h2; omega
  have hm2 : K.length ≤ 9223372036854775807 := by unfold maxLen at k2; omega
  clear h1 h2 h3 h4 k1 k2 k3 k4
  by_cases hlen : L.length = K.length
  · have HE := hide_ hlen
    rw [← hlen]
    have g0 : ((L.length : Int) != (L.length : Int)) = false := by simp
    clear hlen hm2
    obtain ⟨R, hR⟩ : ∃ R, sameBL L K = R := ⟨_, rfl⟩
    rw [hR]
    have HR := hide_ hR
    clear hR
    go_enter Tryz.func102, Tryz.ntmps102
    go_wp2
    go_loopw [17] (fun i wr => ∃ k : Nat, k ≤ L.length ∧ i = .int .i64 k ∧ Hid (L.take k = K.take k) ∧ Below w.heap.size w wr) (fun i _ => L.length - (intOf i).toNat)
    case atStart => exact ⟨0, Nat.zero_le _, rfl, hide_ rfl, Below.refl _ _⟩
    case round =>
      obtain ⟨j, hk, rfl, HT, hb⟩ := hrel
      by_cases hlt : j < L.length
      · have hlt2 : j < K.length := by have := HE.out; omega
        obtain ⟨⟨a1, b1, c1, M1⟩, hz1⟩ : ∃ z, L[j]? = some z := ⟨_, List.getElem?_eq_getElem hlt⟩
        obtain ⟨bq1, off1, u1, rfl, X0, X1, X2, X3, M1A⟩ := HL.out j _ hz1
        have X0 := cell_later hb X0
        have X1 := cell_later hb X1
        have X2 := cell_later hb X2
        have X3 := cell_later hb X3
        obtain ⟨su1, cu1, eu1, -⟩ := id M1A
        subst eu1
        obtain ⟨⟨a2, b2, c2, M2⟩, hz2⟩ : ∃ z, K[j]? = some z := ⟨_, List.getElem?_eq_getElem hlt2⟩
        obtain ⟨bq2, off2, u2, rfl, Y0, Y1, Y2, Y3, M2A⟩ := HK.out j _ hz2
        have Y0 := cell_later hb Y0
        have Y1 := cell_later hb Y1
        have Y2 := cell_later hb Y2
        have Y3 := cell_later hb Y3
        obtain ⟨su2, cu2, eu2, -⟩ := id M2A
        subst eu2
        have Z0 := cell_later (below1 wr (.cells #[.int .i64 a1, .int .i64 b1, .int .i64 c1, (.slice su1 M1.length cu1)] 87)) Y0
        have Z1 := cell_later (below1 wr (.cells #[.int .i64 a1, .int .i64 b1, .int .i64 c1, (.slice su1 M1.length cu1)] 87)) Y1
        have Z2 := cell_later (below1 wr (.cells #[.int .i64 a1, .int .i64 b1, .int .i64 c1, (.slice su1 M1.length cu1)] 87)) Y2
        have Z3 := cell_later (below1 wr (.cells #[.int .i64 a1, .int .i64 b1, .int .i64 c1, (.slice su1 M1.length cu1)] 87)) Y3
        have HX := hide_ hz1
        have HY := hide_ hz2
        have M1H := hide_ (M1A.later hb)
        have M2H := hide_ (M2A.later hb)
        clear hz1 hz2 hlt2 M1A M2A
        have hlt' : (j : Int) < (L.length : Int) := by omega
        have BB := hide_ (below2 wr (.cells #[.int .i64 a1, .int .i64 b1, .int .i64 c1, (.slice su1 M1.length cu1)] 87) (.cells #[.int .i64 a2, .int .i64 b2, .int .i64 c2, (.slice su2 M2.length cu2)] 87))
        have qs := fun W (hW : Below wr.heap.size wr W) => bsame_any a1 b1 c1 _ M1 a2 b2 c2 _ M2 W (M1H.out.later hW) (M2H.out.later hW)
        have qs := hide_ qs
        cases hd : sameB1 (a1, b1, c1, M1) (a2, b2, c2, M2)
        · rw [hd] at qs
          have HD := hide_ (sameB1_no hd)
          clear hd
          go_wp2_with (go_at_call 103; first | (refine (qs.out _ BB.out).mono ?_; rintro e w5 ⟨rfl, b5⟩; have b6 := BB.out.trans (b5.mono BB.out.size)) | (refine (qs.out _ (Below.refl _ _)).mono ?_; rintro e w5 ⟨rfl, b6⟩))
          go_ret
          refine ⟨?_, hb.trans (b6.mono hb.size)⟩
          rw [← HR.out, sameBL_false (take_diffB HX.out HY.out HD.out)]
          rfl
        · rw [hd] at qs
          have HD := hide_ ((sameB1_iff _ _).1 hd)
          clear hd
          go_wp2_with (go_at_call 103; first | (refine (qs.out _ BB.out).mono ?_; rintro e w5 ⟨rfl, b5⟩; have b6 := BB.out.trans (b5.mono BB.out.size)) | (refine (qs.out _ (Below.refl _ _)).mono ?_; rintro e w5 ⟨rfl, b6⟩))
          go_roundw
          case rel => exact ⟨j + 1, by omega, by go_num, hide_ (take_sameB HT.out HX.out HY.out HD.out), hb.trans (b6.mono hb.size)⟩
          case measure => simp [intOf]; omega
      · have hlt' : ¬ (j : Int) < (L.length : Int) := by omega
        go_wp2
        go_ret
        refine ⟨?_, hb⟩
        have e := HT.out
        rw [List.take_of_length_le (by omega), List.take_of_length_le (by have := HE.out; omega)] at e
        rw [← HR.out, sameBL_true e]
        rfl
  · have g0 : ((L.length : Int) != (K.length : Int)) = true := by simp; omega
    have g1 : ((L.length : Int) == (K.length : Int)) = false := by simp; omega
    have e : ¬ L = K := fun h => hlen (by rw [h])
    rw [sameBL_false e]
    go_enter Tryz.func102, Tryz.ntmps102
    go_wp2
    go_ret
    exact ⟨rfl, Below.refl _ _⟩

set_option maxRecDepth 100000 in
set_option maxHeartbeats 8000000 in
theorem blsame_any (v u : Value) (L K : List BK) (w : World) (hL : BuckAt w v L) (hK : BuckAt w u K) :
    Calls Tryz.prog 64 #[v, u] w fun e w' => e = .returned (.bool (sameBL L K)) ∧ Below w.heap.size w w' := by
  have q := hide_ (beqf_any v u L K w hL hK)
  generalize sameBL L K = z at *
  clear hL hK
  go_enter Tryz.func64, Tryz.ntmps64
  go_wp2_with (go_at_call 102; refine q.out.mono ?_; rintro e w1 ⟨rfl, b1⟩)
  go_ret
  exact ⟨rfl, b1⟩
end

section
open Go Go.RowKit
set_option linter.unusedVariables false
set_option linter.unusedSimpArgs false

def encK (L : List BK) : List Int := L.flatMap bkE
theorem encK_take {L : List BK} {j : Nat} {o : BK} (h : L[j]? = some o) : encK (L.take (j + 1)) = encK (L.take j) ++ bkE o := by
  rw [List.take_add_one, h]
  simp [encK]
theorem bkR_parts {o : BK} (h : bkR o = true) : o.2.2.2.length ≤ 100 ∧ o.2.2.2.all artO = true ∧ rightB o.1 2 = true ∧ rightB o.2.1 4 = true ∧ rightB o.2.2.1 4 = true := by
  unfold bkR bkA bkN at h
  simp only [Bool.and_eq_true, decide_eq_true_eq] at h
  exact ⟨h.1.1, h.1.2, h.2.1, h.2.2.1, h.2.2.2⟩
theorem bkE_len (o : BK) : (bkE o).length = 16 + (encA o.2.2.2).length := by
  unfold bkE
  simp only [List.length_append, spl_len2, spl_len4, List.length_replicate, List.length_nil]
theorem bkE_le {o : BK} (hF : AFit o.2.2.2) (h : bkR o = true) : (bkE o).length ≤ 6016 := by
  obtain ⟨h1, h2, -⟩ := bkR_parts h
  have := encA_6000 hF h1 h2
  rw [bkE_len]; omega
theorem encK_len : ∀ (L : List BK), BFit L → L.all bkR = true → (encK L).length ≤ L.length * 6016
  | [], _, _ => Nat.zero_le _
  | o :: r, hF, h => by
    rw [List.all_cons, Bool.and_eq_true] at h
    have h1 := bkE_le (hF o (by simp)) h.1
    have h2 := encK_len r (fun x hx => hF x (by simp [hx])) h.2
    show (bkE o ++ encK r).length ≤ _
    rw [List.length_append, List.length_cons]
    omega
theorem all_take_snoc {α : Type} {p : α → Bool} {L : List α} {j : Nat} {o : α} (h : (L.take j).all p = true) (hj : L[j]? = some o) (ho : p o = true) : (L.take (j + 1)).all p = true := by
  rw [List.take_add_one, hj, List.all_append, h]
  simp [ho]
theorem all_no {α : Type} {p : α → Bool} {L : List α} {j : Nat} {o : α} (hj : L[j]? = some o) (ho : p o = false) : L.all p = false := by
  rw [List.all_eq_false]
  exact ⟨o, List.mem_of_getElem? hj, by simp [ho]⟩

set_option maxRecDepth 100000 in
set_option maxHeartbeats 8000000 in
theorem be_big (v : Value) (L : List BK) (w : World) (hL : BuckAt w v L) (h : 100 < L.length) :
    Calls Tryz.prog 99 #[v] w fun e w' => e = .returned (.tuple #[.slice none 0 0, .int .i64 1]) ∧ Below w.heap.size w w' := by
  obtain ⟨s, cap, rfl, h1, h2, h3, h4⟩ := hL
  have hg : (100 : Int) < (L.length : Int) := by omega
  clear h1 h2 h3 h4 h
  go_enter Tryz.func99, Tryz.ntmps99
  go_wp2
  go_ret2
  exact ⟨rfl, Below.refl _ _⟩

set_option maxRecDepth 100000 in
set_option maxHeartbeats 8000000 in
theorem be_no (v : Value) (L : List BK) (w : World) (hL : BuckAt w v L) (hF : BFit L) (h100 : L.length ≤ 100) (hr : L.all bkR = false) :
    Calls Tryz.prog 99 #[v] w fun e w' => e = .returned (.tuple #[.slice none 0 0, .int .i64 1]) ∧ Below w.heap.size w w' := by
  obtain ⟨s, cap, rfl, h1, h2, h3, h4⟩ := hL
  have HL := hide_ h4
  have HF := hide_ hF
  have H100 := hide_ h100
  have HR := hide_ hr
  have hm : L.length ≤ 9223372036854775807 := by omega
  have hg : ¬ (100 : Int) < (L.length : Int) := by omega
  obtain ⟨i0, hi0, hz0, hz1, hz2⟩ := info_parts info5
  have HI : Hid (Tryz.prog.info? 5 = some i0 ∧ i0.zero = some (.int .u8 0) ∧ i0.size = 1 ∧ i0.bytes = 1) := ⟨hi0, hz0, hz1, hz2⟩
  clear hi0 hz0 hz1 hz2 h1 h2 h3 h4 hF h100 hr
  go_enter Tryz.func99, Tryz.ntmps99
  go_wp2
  go_loopw [4, 6, 7, 8, 14] (fun b _ _ _ i wr => ∃ (j : Nat) (sb : Option Addr) (nb cb : Nat) (EJ : List Int), j ≤ L.length ∧ i = .int .i64 (j : Int) ∧ b = .slice sb nb cb ∧ Hid (EJ = encK (L.take j)) ∧ Hid (EJ.length = nb) ∧ Hid (OwnB wr w.heap.size (.slice sb nb cb) EJ) ∧ Hid ((L.take j).all bkR = true) ∧ Hid (Below w.heap.size w wr)) (fun _ _ _ _ i _ => L.length - (intOf i).toNat)
  case atStart => exact ⟨0, none, 0, 0, [], Nat.zero_le _, rfl, rfl, hide_ rfl, hide_ rfl, hide_ (own_nilB _ _), hide_ rfl, hide_ (Below.refl _ _)⟩
  case round =>
    obtain ⟨j, sb, nb, cb, EJ, hj, rfl, rfl, HE, HNB, HOw, HA, KB⟩ := hrel
    by_cases hlt : j < L.length
    · have hlt' : (j : Int) < (L.length : Int) := by omega
      have hj0 : (0 : Int) ≤ (j : Int) := by omega
      obtain ⟨⟨a1, b1, c1, M1⟩, hz1⟩ : ∃ z, L[j]? = some z := ⟨_, List.getElem?_eq_getElem hlt⟩
      obtain ⟨bq1, off1, u1, rfl, X0, X1, X2, X3, M1A⟩ := HL.out j _ hz1
      have X0 := cell_later KB.out X0
      have X1 := cell_later KB.out X1
      have X2 := cell_later KB.out X2
      have X3 := cell_later KB.out X3
      obtain ⟨su1, cu1, eu1, -⟩ := id M1A
      subst eu1
      have HX := hide_ hz1
      have M1H := hide_ (M1A.later KB.out)
      have hF1 := hide_ (HF.out _ (List.mem_of_getElem? hz1))
      have BB := hide_ (below1 wr (.cells #[.int .i64 a1, .int .i64 b1, .int .i64 c1, (.slice su1 M1.length cu1)] 87))
      clear hz1 M1A
      cases ho : bkR (a1, b1, c1, M1)
      · skip
        have qs := hide_ (fun W (hW : Below wr.heap.size wr W) => bspell_no a1 b1 c1 _ M1 W (M1H.out.later hW) hF1.out ho)
        clear ho
        go_wp2_with (first | (go_at_call 126; refine (qs.out _ BB.out).mono ?_; rintro e w5 ⟨rfl, b5⟩))
        go_ret2
        exact ⟨rfl, KB.out.trans ((BB.out.trans (b5.mono BB.out.size)).mono KB.out.size)⟩
      · skip
        have qs := hide_ (fun W (hW : Below wr.heap.size wr W) => bspell_yes a1 b1 c1 _ M1 W (M1H.out.later hW) hF1.out ho)
        have HO := hide_ ho
        have HN6 : Hid (nb + (bkE (a1, b1, c1, M1)).length ≤ 1000000) := hide_ (by
          have h1 := bkE_le (o := (a1, b1, c1, M1)) hF1.out ho
          have h2 := encK_len (L.take j) (fun o h => HF.out o (List.mem_of_mem_take h)) HA.out
          rw [← HE.out, HNB.out, List.length_take] at h2
          have h3 : min j L.length ≤ 100 := by have := H100.out; omega
          omega)
        clear ho
        have HE8 := hide_ (encK_take HX.out)
        obtain ⟨E1, hE1⟩ : ∃ E1, bkE (a1, b1, c1, M1) = E1 := ⟨_, rfl⟩
        rw [hE1] at qs HN6 HE8
        obtain ⟨n5, hn5⟩ : ∃ n5, E1.length = n5 := ⟨_, rfl⟩
        have HN5 := hide_ hn5
        clear hE1 hn5
        go_wp2_with (first | (go_at_call 126; refine (qs.out _ BB.out).mono ?_; rintro e w5 ⟨r5, rfl, hO5, b5⟩; obtain ⟨s5, c5, hr5⟩ := own_sliceB hO5; rw [HN5.out] at hr5; subst hr5; have j5 := hide_ (BB.out.trans (b5.mono BB.out.size)); have HO5 := hide_ hO5; clear hO5 b5) | (at_builtin; refine wpList_append_ownB rfl (.tmp 25) (.tmp 26) 25 rfl w.heap.size 5 i0 Tryz.underlying25 HI.out.1 HI.out.2.1 HI.out.2.2.1 HI.out.2.2.2 (.slice sb nb cb) nb (u8s EJ) (by simp [Act.eval, Act.put]) (by have := (HOw.out.later j5.out).1; rw [HNB.out] at this; exact this) (.slice s5 n5 c5) E1 (by simp [Act.eval, Act.put]) HO5.out.bytes (by have := HN6.out; omega) (Nat.le_trans KB.out.size j5.out.size) ?_; intro v8 w8 ho8 hg8; have O8 := hide_ ((HOw.out.later j5.out).grow HO5.out.2 (by rw [HNB.out]; exact ho8)); have k8 := hide_ ((KB.out.trans (j5.out.mono KB.out.size)).trans ((HOw.out.later j5.out).growB hg8 (Nat.le_refl _) (Nat.le_trans KB.out.size j5.out.size))); clear ho8 hg8))
        obtain ⟨s8, c8, hv8⟩ := own_sliceB O8.out
        subst hv8
        obtain ⟨n8, hn8⟩ : ∃ n8, (EJ ++ E1).length = n8 := ⟨_, rfl⟩
        rw [hn8] at O8 ⊢
        have HN8 := hide_ hn8
        clear hn8
        try go_wp2
        go_roundw
        case rel => exact ⟨j + 1, s8, n8, c8, EJ ++ E1, by omega, by go_num, rfl, hide_ (by rw [HE8.out, HE.out]), HN8, O8, hide_ (all_take_snoc HA.out HX.out HO.out), k8⟩
        case measure => simp [intOf]; omega
    · exfalso
      have h := HA.out
      rw [List.take_of_length_le (by omega), HR.out] at h
      cases h

set_option maxRecDepth 100000 in
set_option maxHeartbeats 8000000 in
theorem be_yes (v : Value) (L : List BK) (w : World) (hL : BuckAt w v L) (hF : BFit L) (h100 : L.length ≤ 100) (hr : L.all bkR = true) (h6 : (encK L).length ≤ 60000) :
    Calls Tryz.prog 99 #[v] w fun e w' => (∃ r, e = .returned (.tuple #[r, .int .i64 0]) ∧ OwnB w' w.heap.size r (encK L)) ∧ Below w.heap.size w w' := by
  obtain ⟨s, cap, rfl, h1, h2, h3, h4⟩ := hL
  have HL := hide_ h4
  have HF := hide_ hF
  have H100 := hide_ h100
  have HR := hide_ hr
  have hm : L.length ≤ 9223372036854775807 := by omega
  have hg : ¬ (100 : Int) < (L.length : Int) := by omega
  have H6 := hide_ h6
  clear h6
  obtain ⟨i0, hi0, hz0, hz1, hz2⟩ := info_parts info5
  have HI : Hid (Tryz.prog.info? 5 = some i0 ∧ i0.zero = some (.int .u8 0) ∧ i0.size = 1 ∧ i0.bytes = 1) := ⟨hi0, hz0, hz1, hz2⟩
  clear hi0 hz0 hz1 hz2 h1 h2 h3 h4 hF h100 hr
  go_enter Tryz.func99, Tryz.ntmps99
  go_wp2
  go_loopw [4, 6, 7, 8, 14] (fun b _ _ _ i wr => ∃ (j : Nat) (sb : Option Addr) (nb cb : Nat) (EJ : List Int), j ≤ L.length ∧ i = .int .i64 (j : Int) ∧ b = .slice sb nb cb ∧ Hid (EJ = encK (L.take j)) ∧ Hid (EJ.length = nb) ∧ Hid (OwnB wr w.heap.size (.slice sb nb cb) EJ) ∧ Hid ((L.take j).all bkR = true) ∧ Hid (Below w.heap.size w wr)) (fun _ _ _ _ i _ => L.length - (intOf i).toNat)
  case atStart => exact ⟨0, none, 0, 0, [], Nat.zero_le _, rfl, rfl, hide_ rfl, hide_ rfl, hide_ (own_nilB _ _), hide_ rfl, hide_ (Below.refl _ _)⟩
  case round =>
    obtain ⟨j, sb, nb, cb, EJ, hj, rfl, rfl, HE, HNB, HOw, HA, KB⟩ := hrel
    by_cases hlt : j < L.length
    · have hlt' : (j : Int) < (L.length : Int) := by omega
      have hj0 : (0 : Int) ≤ (j : Int) := by omega
      obtain ⟨⟨a1, b1, c1, M1⟩, hz1⟩ : ∃ z, L[j]? = some z := ⟨_, List.getElem?_eq_getElem hlt⟩
      obtain ⟨bq1, off1, u1, rfl, X0, X1, X2, X3, M1A⟩ := HL.out j _ hz1
      have X0 := cell_later KB.out X0
      have X1 := cell_later KB.out X1
      have X2 := cell_later KB.out X2
      have X3 := cell_later KB.out X3
      obtain ⟨su1, cu1, eu1, -⟩ := id M1A
      subst eu1
      have HX := hide_ hz1
      have M1H := hide_ (M1A.later KB.out)
      have hF1 := hide_ (HF.out _ (List.mem_of_getElem? hz1))
      have BB := hide_ (below1 wr (.cells #[.int .i64 a1, .int .i64 b1, .int .i64 c1, (.slice su1 M1.length cu1)] 87))
      clear hz1 M1A
      cases ho : bkR (a1, b1, c1, M1)
      · exfalso
        have h := all_no HX.out ho
        rw [HR.out] at h
        cases h
      · skip
        have qs := hide_ (fun W (hW : Below wr.heap.size wr W) => bspell_yes a1 b1 c1 _ M1 W (M1H.out.later hW) hF1.out ho)
        have HO := hide_ ho
        have HN6 : Hid (nb + (bkE (a1, b1, c1, M1)).length ≤ 1000000) := hide_ (by
          have h1 := bkE_le (o := (a1, b1, c1, M1)) hF1.out ho
          have h2 := encK_len (L.take j) (fun o h => HF.out o (List.mem_of_mem_take h)) HA.out
          rw [← HE.out, HNB.out, List.length_take] at h2
          have h3 : min j L.length ≤ 100 := by have := H100.out; omega
          omega)
        clear ho
        have HE8 := hide_ (encK_take HX.out)
        obtain ⟨E1, hE1⟩ : ∃ E1, bkE (a1, b1, c1, M1) = E1 := ⟨_, rfl⟩
        rw [hE1] at qs HN6 HE8
        obtain ⟨n5, hn5⟩ : ∃ n5, E1.length = n5 := ⟨_, rfl⟩
        have HN5 := hide_ hn5
        clear hE1 hn5
        go_wp2_with (first | (go_at_call 126; refine (qs.out _ BB.out).mono ?_; rintro e w5 ⟨r5, rfl, hO5, b5⟩; obtain ⟨s5, c5, hr5⟩ := own_sliceB hO5; rw [HN5.out] at hr5; subst hr5; have j5 := hide_ (BB.out.trans (b5.mono BB.out.size)); have HO5 := hide_ hO5; clear hO5 b5) | (at_builtin; refine wpList_append_ownB rfl (.tmp 25) (.tmp 26) 25 rfl w.heap.size 5 i0 Tryz.underlying25 HI.out.1 HI.out.2.1 HI.out.2.2.1 HI.out.2.2.2 (.slice sb nb cb) nb (u8s EJ) (by simp [Act.eval, Act.put]) (by have := (HOw.out.later j5.out).1; rw [HNB.out] at this; exact this) (.slice s5 n5 c5) E1 (by simp [Act.eval, Act.put]) HO5.out.bytes (by have := HN6.out; omega) (Nat.le_trans KB.out.size j5.out.size) ?_; intro v8 w8 ho8 hg8; have O8 := hide_ ((HOw.out.later j5.out).grow HO5.out.2 (by rw [HNB.out]; exact ho8)); have k8 := hide_ ((KB.out.trans (j5.out.mono KB.out.size)).trans ((HOw.out.later j5.out).growB hg8 (Nat.le_refl _) (Nat.le_trans KB.out.size j5.out.size))); clear ho8 hg8))
        obtain ⟨s8, c8, hv8⟩ := own_sliceB O8.out
        subst hv8
        obtain ⟨n8, hn8⟩ : ∃ n8, (EJ ++ E1).length = n8 := ⟨_, rfl⟩
        rw [hn8] at O8 ⊢
        have HN8 := hide_ hn8
        clear hn8
        try go_wp2
        go_roundw
        case rel => exact ⟨j + 1, s8, n8, c8, EJ ++ E1, by omega, by go_num, rfl, hide_ (by rw [HE8.out, HE.out]), HN8, O8, hide_ (all_take_snoc HA.out HX.out HO.out), k8⟩
        case measure => simp [intOf]; omega
    · have hlt' : ¬ (j : Int) < (L.length : Int) := by omega
      have e : EJ = encK L := by rw [HE.out, List.take_of_length_le (by omega)]
      have g6 : ¬ (60000 : Int) < (nb : Int) := by
        have h1 := H6.out
        rw [← e, HNB.out] at h1
        omega
      have HEE := hide_ e
      clear e
      go_wp2
      go_ret2
      exact ⟨⟨_, rfl, HEE.out ▸ HOw.out⟩, KB.out⟩

set_option maxRecDepth 100000 in
set_option maxHeartbeats 8000000 in
theorem be_long (v : Value) (L : List BK) (w : World) (hL : BuckAt w v L) (hF : BFit L) (h100 : L.length ≤ 100) (hr : L.all bkR = true) (h6 : 60000 < (encK L).length) :
    Calls Tryz.prog 99 #[v] w fun e w' => e = .returned (.tuple #[.slice none 0 0, .int .i64 1]) ∧ Below w.heap.size w w' := by
  obtain ⟨s, cap, rfl, h1, h2, h3, h4⟩ := hL
  have HL := hide_ h4
  have HF := hide_ hF
  have H100 := hide_ h100
  have HR := hide_ hr
  have hm : L.length ≤ 9223372036854775807 := by omega
  have hg : ¬ (100 : Int) < (L.length : Int) := by omega
  have H6 := hide_ h6
  clear h6
  obtain ⟨i0, hi0, hz0, hz1, hz2⟩ := info_parts info5
  have HI : Hid (Tryz.prog.info? 5 = some i0 ∧ i0.zero = some (.int .u8 0) ∧ i0.size = 1 ∧ i0.bytes = 1) := ⟨hi0, hz0, hz1, hz2⟩
  clear hi0 hz0 hz1 hz2 h1 h2 h3 h4 hF h100 hr
  go_enter Tryz.func99, Tryz.ntmps99
  go_wp2
  go_loopw [4, 6, 7, 8, 14] (fun b _ _ _ i wr => ∃ (j : Nat) (sb : Option Addr) (nb cb : Nat) (EJ : List Int), j ≤ L.length ∧ i = .int .i64 (j : Int) ∧ b = .slice sb nb cb ∧ Hid (EJ = encK (L.take j)) ∧ Hid (EJ.length = nb) ∧ Hid (OwnB wr w.heap.size (.slice sb nb cb) EJ) ∧ Hid ((L.take j).all bkR = true) ∧ Hid (Below w.heap.size w wr)) (fun _ _ _ _ i _ => L.length - (intOf i).toNat)
  case atStart => exact ⟨0, none, 0, 0, [], Nat.zero_le _, rfl, rfl, hide_ rfl, hide_ rfl, hide_ (own_nilB _ _), hide_ rfl, hide_ (Below.refl _ _)⟩
  case round =>
    obtain ⟨j, sb, nb, cb, EJ, hj, rfl, rfl, HE, HNB, HOw, HA, KB⟩ := hrel
    by_cases hlt : j < L.length
    · have hlt' : (j : Int) < (L.length : Int) := by omega
      have hj0 : (0 : Int) ≤ (j : Int) := by omega
      obtain ⟨⟨a1, b1, c1, M1⟩, hz1⟩ : ∃ z, L[j]? = some z := ⟨_, List.getElem?_eq_getElem hlt⟩
      obtain ⟨bq1, off1, u1, rfl, X0, X1, X2, X3, M1A⟩ := HL.out j _ hz1
      have X0 := cell_later KB.out X0
      have X1 := cell_later KB.out X1
      have X2 := cell_later KB.out X2
      have X3 := cell_later KB.out X3
      obtain ⟨su1, cu1, eu1, -⟩ := id M1A
      subst eu1
      have HX := hide_ hz1
      have M1H := hide_ (M1A.later KB.out)
      have hF1 := hide_ (HF.out _ (List.mem_of_getElem? hz1))
      have BB := hide_ (below1 wr (.cells #[.int .i64 a1, .int .i64 b1, .int .i64 c1, (.slice su1 M1.length cu1)] 87))
      clear hz1 M1A
      cases ho : bkR (a1, b1, c1, M1)
      · exfalso
        have h := all_no HX.out ho
        rw [HR.out] at h
        cases h
      · skip
        have qs := hide_ (fun W (hW : Below wr.heap.size wr W) => bspell_yes a1 b1 c1 _ M1 W (M1H.out.later hW) hF1.out ho)
        have HO := hide_ ho
        have HN6 : Hid (nb + (bkE (a1, b1, c1, M1)).length ≤ 1000000) := hide_ (by
          have h1 := bkE_le (o := (a1, b1, c1, M1)) hF1.out ho
          have h2 := encK_len (L.take j) (fun o h => HF.out o (List.mem_of_mem_take h)) HA.out
          rw [← HE.out, HNB.out, List.length_take] at h2
          have h3 : min j L.length ≤ 100 := by have := H100.out; omega
          omega)
        clear ho
        have HE8 := hide_ (encK_take HX.out)
        obtain ⟨E1, hE1⟩ : ∃ E1, bkE (a1, b1, c1, M1) = E1 := ⟨_, rfl⟩
        rw [hE1] at qs HN6 HE8
        obtain ⟨n5, hn5⟩ : ∃ n5, E1.length = n5 := ⟨_, rfl⟩
        have HN5 := hide_ hn5
        clear hE1 hn5
        go_wp2_with (first | (go_at_call 126; refine (qs.out _ BB.out).mono ?_; rintro e w5 ⟨r5, rfl, hO5, b5⟩; obtain ⟨s5, c5, hr5⟩ := own_sliceB hO5; rw [HN5.out] at hr5; subst hr5; have j5 := hide_ (BB.out.trans (b5.mono BB.out.size)); have HO5 := hide_ hO5; clear hO5 b5) | (at_builtin; refine wpList_append_ownB rfl (.tmp 25) (.tmp 26) 25 rfl w.heap.size 5 i0 Tryz.underlying25 HI.out.1 HI.out.2.1 HI.out.2.2.1 HI.out.2.2.2 (.slice sb nb cb) nb (u8s EJ) (by simp [Act.eval, Act.put]) (by have := (HOw.out.later j5.out).1; rw [HNB.out] at this; exact this) (.slice s5 n5 c5) E1 (by simp [Act.eval, Act.put]) HO5.out.bytes (by have := HN6.out; omega) (Nat.le_trans KB.out.size j5.out.size) ?_; intro v8 w8 ho8 hg8; have O8 := hide_ ((HOw.out.later j5.out).grow HO5.out.2 (by rw [HNB.out]; exact ho8)); have k8 := hide_ ((KB.out.trans (j5.out.mono KB.out.size)).trans ((HOw.out.later j5.out).growB hg8 (Nat.le_refl _) (Nat.le_trans KB.out.size j5.out.size))); clear ho8 hg8))
        obtain ⟨s8, c8, hv8⟩ := own_sliceB O8.out
        subst hv8
        obtain ⟨n8, hn8⟩ : ∃ n8, (EJ ++ E1).length = n8 := ⟨_, rfl⟩
        rw [hn8] at O8 ⊢
        have HN8 := hide_ hn8
        clear hn8
        try go_wp2
        go_roundw
        case rel => exact ⟨j + 1, s8, n8, c8, EJ ++ E1, by omega, by go_num, rfl, hide_ (by rw [HE8.out, HE.out]), HN8, O8, hide_ (all_take_snoc HA.out HX.out HO.out), k8⟩
        case measure => simp [intOf]; omega
    · have hlt' : ¬ (j : Int) < (L.length : Int) := by omega
      have e : EJ = encK L := by rw [HE.out, List.take_of_length_le (by omega)]
      have g6 : (60000 : Int) < (nb : Int) := by
        have h1 := H6.out
        rw [← e, HNB.out] at h1
        omega
      have HEE := hide_ e
      clear e
      go_wp2
      go_ret2
      exact ⟨rfl, KB.out⟩

/-- what bucket.Encode answers -/
def bencR (L : List BK) (B : List Int) (er : Int) : Prop := (L.length ≤ 100 ∧ L.all bkR = true ∧ (encK L).length ≤ 60000 ∧ B = encK L ∧ er = 0) ∨ (¬ (L.length ≤ 100 ∧ L.all bkR = true ∧ (encK L).length ≤ 60000) ∧ B = [] ∧ er = 1)
theorem be_all {v : Value} {L : List BK} {B : List Int} {er : Int} {w : World} (hL : BuckAt w v L) (hF : BFit L) (h : bencR L B er) : Calls Tryz.prog 99 #[v] w fun e w' => ∃ r, e = .returned (.tuple #[r, .int .i64 er]) ∧ OwnB w' w.heap.size r B ∧ Below w.heap.size w w' := by
  rcases h with ⟨h1, h2, h3, rfl, rfl⟩ | ⟨h, rfl, rfl⟩
  · exact (be_yes v L w hL hF h1 h2 h3).mono fun e w' ⟨⟨r, h1, h2⟩, h3⟩ => ⟨r, h1, h2, h3⟩
  · have key : ∀ (e : Ending) (w' : World), e = .returned (.tuple #[.slice none 0 0, .int .i64 1]) ∧ Below w.heap.size w w' → ∃ r, e = .returned (.tuple #[r, .int .i64 1]) ∧ OwnB w' w.heap.size r [] ∧ Below w.heap.size w w' := fun e w' he => ⟨_, he.1, own_nilB _ _, he.2⟩
    by_cases h100 : L.length ≤ 100
    · cases hr : L.all bkR
      · exact (be_no v L w hL hF h100 hr).mono key
      · exact (be_long v L w hL hF h100 hr (by
          apply Nat.lt_of_not_le
          intro h6
          exact h ⟨h100, hr, h6⟩)).mono key
    · exact (be_big v L w hL (by omega)).mono key
end

section
open Go Go.RowKit
set_option linter.unusedVariables false
set_option linter.unusedSimpArgs false

set_option maxRecDepth 100000 in
set_option maxHeartbeats 4000000 in
theorem bclo_any (z : Int) (w : World) :
    Calls Tryz.prog 128 #[.int .u8 z] w fun e w' => e = .returned (.bool (z != 0)) ∧ w' = w := by
  go_enter Tryz.func128, Tryz.ntmps128
  go_wp2_with fail
  go_ret
  exact ⟨rfl, rfl⟩

set_option maxRecDepth 100000 in
set_option maxHeartbeats 4000000 in
theorem bidx_any (v : Value) (l : List Int) (w : World) (hB : Bytes w v l) :
    Calls Tryz.prog 141 #[v, (.func (.func 128) #[] #[])] w fun e w' => (∃ i : Int, e = .returned (.int .i64 i) ∧ (decide (0 ≤ i)) = nzB l) ∧ Below w.heap.size w w' := by
  obtain ⟨ao, cap, rfl, h1, h2, h3, h4, h5⟩ := hB
  have hB : Bytes w (.slice ao l.length cap) l := ⟨ao, cap, rfl, h1, h2, h3, h4, h5⟩
  obtain ⟨-, -, -, hat⟩ := Bytes.at hB
  have H := hide_ hat
  have hm : l.length ≤ 9223372036854775807 := by unfold maxLen at h2; omega
  clear hat hB h1 h2 h3 h4 h5
  go_enter Tryz.func141, Tryz.ntmps141
  go_wp2
  go_loopw [5, 8] (fun _ i wr => ∃ k : Nat, k ≤ l.length ∧ i = .int .i64 k ∧ Hid (nzB (l.take k) = false) ∧ Below w.heap.size w wr) (fun _ i _ => l.length - (intOf i).toNat)
  case atStart => exact ⟨0, Nat.zero_le _, rfl, rfl, Below.refl _ _⟩
  case round =>
    obtain ⟨k, hk, rfl, HT, hb⟩ := hrel
    by_cases hlt : k < l.length
    · obtain ⟨z, hz⟩ : ∃ z, l[k]? = some z := ⟨_, List.getElem?_eq_getElem hlt⟩
      obtain ⟨b, off, rfl, c1⟩ := H.out k z hz
      have c1 := cell_later hb c1
      have HZ := hide_ hz
      clear hz
      have hlt' : (k : Int) < (l.length : Int) := by omega
      by_cases h0 : z = 0
      · subst h0
        go_wp2_with (go_at_call 128; refine (bclo_any _ _).mono ?_; rintro e w' ⟨rfl, rfl⟩)
        go_roundw
        case rel => exact ⟨k + 1, by omega, by go_num, by show _ = _; rw [List.take_add_one, HZ.out]; unfold nzB at *; rw [List.any_append, HT.out]; rfl, hb⟩
        case measure => simp [intOf]; omega
      · have hne : (z != 0) = true := by simpa using h0
        have H0 := hide_ h0
        clear h0
        go_wp2_with (go_at_call 128; refine (bclo_any _ _).mono ?_; rintro e w' ⟨rfl, rfl⟩)
        go_ret
        refine ⟨⟨_, rfl, ?_⟩, hb⟩
        have e1 : nzB l = true := by
          unfold nzB
          rw [List.any_eq_true]
          exact ⟨z, List.mem_of_getElem? HZ.out, by simpa using H0.out⟩
        rw [e1]
        simp
    · have hlt' : ¬ (k : Int) < (l.length : Int) := by omega
      go_wp2
      go_ret
      refine ⟨⟨_, rfl, ?_⟩, hb⟩
      have e := HT.out
      rw [List.take_of_length_le (by omega)] at e
      rw [e]
      rfl

set_option maxRecDepth 100000 in
set_option maxHeartbeats 4000000 in
theorem bcont_any (v : Value) (l : List Int) (w : World) (hB : Bytes w v l) :
    Calls Tryz.prog 121 #[v, (.func (.func 128) #[] #[])] w fun e w' => e = .returned (.bool (nzB l)) ∧ Below w.heap.size w w' := by
  have q := hide_ (bidx_any v l w hB)
  generalize nzB l = z at *
  clear hB
  go_enter Tryz.func121, Tryz.ntmps121
  go_wp2_with (go_at_call 141; refine q.out.mono ?_; rintro e w1 ⟨⟨i, rfl, hi⟩, b1⟩)
  go_ret
  exact ⟨by rw [← hi]; rfl, b1⟩

theorem bytes_cut {w : World} {ao : Option Addr} {n cap : Nat} {l : List Int} (h : Bytes w (.slice ao n cap) l) (s : Nat) (h0 : 0 < s) (hs : s ≤ l.length) :
    ∃ ao', (∀ wx, (Instr.slice 25 (.slice ao n cap) none (some (.int .i64 (s : Int))) (some (.int .i64 (s : Int)))).run Tryz.prog wx = .ok (.slice ao' s s) wx) ∧ Bytes w (.slice ao' s s) (l.take s) := by
  obtain ⟨a, c, e0, h1, h2, h3, h4, h5⟩ := h
  cases e0
  refine ⟨ao.map (·.add 0), fun wx => ?_, ?_⟩
  · rw [run_slice_hm wx 25 ao l.length cap u51 .i64 .i64 (s : Int) (s : Int) (by omega) (by omega) (by omega), sz51]
    have hz : ¬ s = 0 := by omega
    simp [sliced, hz]
  · refine ⟨ao.map (·.add 0), s, by rw [List.length_take, Nat.min_eq_left hs], by rw [List.length_take, Nat.min_eq_left hs]; exact Nat.le_refl _, by omega, fun z hz => h3 z (List.mem_of_mem_take hz), fun hn => ?_, fun ad hd j z hz => ?_⟩
    · cases ao with
      | none => have := h4 rfl; omega
      | some a => cases hn
    · rw [List.getElem?_take] at hz
      split at hz
      · cases ao with
        | none => cases hd
        | some a =>
          simp at hd
          subst hd
          rw [Addr.add_add, Nat.zero_add]
          exact h5 a rfl _ _ hz
      · cases hz
def cutOk (l : List Int) : Prop := 16 ≤ l.length ∧ 16 ≤ be2 l 0 ∧ be2 l 0 % 8 = 0 ∧ be2 l 0 ≤ l.length

set_option maxRecDepth 100000 in
set_option maxHeartbeats 8000000 in
theorem cut_no (v : Value) (l : List Int) (w : World) (hB : Bytes w v l) (h : ¬ cutOk l) :
    Calls Tryz.prog 127 #[v] w fun e w' => e = .returned (.tuple #[.slice none 0 0, .bool false]) ∧ Below w.heap.size w w' := by
  obtain ⟨ao, cap, rfl, hbr⟩ := hB
  have hB : Bytes w (.slice ao l.length cap) l := ⟨ao, cap, rfl, hbr⟩
  have qg := hide_ (fun W hW => nget2 _ l 0 W (hB.later (w' := W) hW) (by omega))
  have hm : l.length ≤ 9223372036854775807 := by obtain ⟨_, _, h1⟩ := Bytes.at hB; unfold maxLen at *; omega
  have hz := (be2_range (Bytes.isB_ hB) 0)
  have hc : l.length < 16 ∨ (¬ l.length < 16 ∧ (be2 l 0 < 16 ∨ (¬ be2 l 0 < 16 ∧ (¬ be2 l 0 % 8 = 0 ∨ (be2 l 0 % 8 = 0 ∧ (l.length : Int) < be2 l 0))))) := by
    unfold cutOk at h; omega
  generalize be2 l 0 = z at *
  clear hB hbr h
  generalize l.length = n at *
  rcases hc with h1 | ⟨h1, h2 | ⟨h2, h3 | ⟨h3, h4⟩⟩⟩
  · have g1 : (n : Int) < 16 := by omega
    go_enter Tryz.func127, Tryz.ntmps127
    go_wp2
    go_ret2
    exact ⟨rfl, Below.refl _ _⟩
  · have g1 : ¬ (n : Int) < 16 := by omega
    go_enter Tryz.func127, Tryz.ntmps127
    go_wp2_with (go_at_call 89; refine (qg.out _ (Below.refl _ _)).mono ?_; rintro e w1 ⟨er, rfl, b1⟩)
    go_ret2
    exact ⟨rfl, b1⟩
  · have g1 : ¬ (n : Int) < 16 := by omega
    have g3 : (z % 8 != 0) = true := by simpa using h3
    go_enter Tryz.func127, Tryz.ntmps127
    go_wp2_with (go_at_call 89; refine (qg.out _ (Below.refl _ _)).mono ?_; rintro e w1 ⟨er, rfl, b1⟩)
    go_ret2
    exact ⟨rfl, b1⟩
  · have g1 : ¬ (n : Int) < 16 := by omega
    have g3 : (z % 8 != 0) = false := by simpa using h3
    go_enter Tryz.func127, Tryz.ntmps127
    go_wp2_with (go_at_call 89; refine (qg.out _ (Below.refl _ _)).mono ?_; rintro e w1 ⟨er, rfl, b1⟩)
    go_ret2
    exact ⟨rfl, b1⟩

set_option maxRecDepth 100000 in
set_option maxHeartbeats 8000000 in
theorem cut_yes (ao ao' : Option Addr) (cap : Nat) (l : List Int) (N : Nat) (w : World) (hB : Bytes w (.slice ao l.length cap) l) (h : cutOk l) (hN : be2 l 0 = (N : Int))
    (hs : ∀ wx, (Instr.slice 25 (.slice ao l.length cap) none (some (.int .i64 (N : Int))) (some (.int .i64 (N : Int)))).run Tryz.prog wx = .ok (.slice ao' N N) wx) :
    Calls Tryz.prog 127 #[.slice ao l.length cap] w fun e w' => e = .returned (.tuple #[.slice ao' N N, .bool true]) ∧ Below w.heap.size w w' := by
  have qg := fun W hW => nget2 _ l 0 W (hB.later (w' := W) hW) (by omega)
  have hm : l.length ≤ 9223372036854775807 := by obtain ⟨_, _, h1⟩ := Bytes.at hB; unfold maxLen at *; omega
  unfold cutOk at h
  rw [hN] at qg h
  have qg := hide_ qg
  obtain ⟨h1, h2, h3, h4⟩ := h
  clear hB hN
  generalize l.length = n at *
  have g1 : ¬ (n : Int) < 16 := by omega
  have g2 : ¬ (N : Int) < 16 := by omega
  have g3 : ((N : Int) % 8 != 0) = false := by simpa using h3
  have g4 : ¬ (n : Int) < (N : Int) := by omega
  clear h1 h2 h3 h4
  go_enter Tryz.func127, Tryz.ntmps127
  go_wp2_with (go_at_call 89; refine (qg.out _ (Below.refl _ _)).mono ?_; rintro e w1 ⟨er, rfl, b1⟩)
  go_ret2
  exact ⟨rfl, b1⟩

set_option maxRecDepth 100000 in
set_option maxHeartbeats 8000000 in
theorem refuse6_any (c : Int) (w : World) :
    Calls Tryz.prog 104 #[.int .i64 c] w fun e w' => e = .returned (.agg #[.bool true, .int .i64 6, .int .i64 c]) ∧ Below w.heap.size w w' := by
  have B0 := hide_ (below1 w (.cells #[.bool true, .int .i64 6, .int .i64 c] 44))
  go_enter Tryz.func104, Tryz.ntmps104
  go_wp2
  exact bodyPost_ret (v := .agg #[.bool true, .int .i64 6, .int .i64 c]) (by simp [results, Tryz.results104, go_sem]) rfl ⟨rfl, B0.out⟩

theorem AB.fark4 {w : World} {g f : Nat} {ty : TypeId} {cs : List Value} (h : AB w g ty cs) (hne : g ≠ f) (x y z u : Value) : AB ((((w.setCell ⟨f, 0, none⟩ x).setCell ⟨f, 1, none⟩ y).setCell ⟨f, 2, none⟩ z).setCell ⟨f, 3, none⟩ u) g ty cs := (((h.far x hne).far y hne).far z hne).far u hne
theorem AB.farx3 {w : World} {g f : Nat} {ty : TypeId} {cs : List Value} (h : AB w g ty cs) (hne : g ≠ f) (x y z : Value) : AB (((w.setCell ⟨f, 0, none⟩ x).setCell ⟨f, 1, none⟩ y).setCell ⟨f, 2, none⟩ z) g ty cs := ((h.far x hne).far y hne).far z hne
end

section
open Go Go.RowKit
set_option linter.unusedVariables false
set_option linter.unusedSimpArgs false

theorem cell_fillK {w : World} {g i0 i1 i2 i3 : Nat} {p : Addr} (hp : g ≠ p.block) (x y z u : Value) : ((((w.setCell ⟨g, i0, none⟩ x).setCell ⟨g, i1, none⟩ y).setCell ⟨g, i2, none⟩ z).setCell ⟨g, i3, none⟩ u).cell? p = w.cell? p := by
  rw [World.cell?_of_block (w := _) (Below.heap_setCell _ _ _ _ (fun e => hp e.symm)), World.cell?_of_block (w := _) (Below.heap_setCell _ _ _ _ (fun e => hp e.symm)), World.cell?_of_block (w := _) (Below.heap_setCell _ _ _ _ (fun e => hp e.symm)), World.cell?_of_block (w := _) (Below.heap_setCell _ _ _ _ (fun e => hp e.symm))]

set_option maxRecDepth 100000 in
set_option maxHeartbeats 8000000 in
theorem read_bad1 (ao : Option Addr) (cap : Nat) (l : List Int) (w : World) (hB : Bytes w (.slice ao l.length cap) l) (h : ¬ cutOk l) :
    Calls Tryz.prog 105 #[.slice ao l.length cap] w fun e w' => e = .returned (.tuple #[.agg #[.int .i64 0, .int .i64 0, .int .i64 0, .slice none 0 0], .int .i64 0, .agg #[.bool true, .int .i64 6, .int .i64 12]]) ∧ Below w.heap.size w w' := by
  have R0 := hide_ ((AB.at0 w 87 [.int .i64 0, .int .i64 0, .int .i64 0, .slice none 0 0]).alloc (.cells #[.bool false, .int .i64 0, .int .i64 0] 44))
  have F0 := hide_ (AB.at1 w (.cells #[.int .i64 0, .int .i64 0, .int .i64 0, .slice none 0 0] 87) 44 [.bool false, .int .i64 0, .int .i64 0])
  have B0 := hide_ (below2 w (.cells #[.int .i64 0, .int .i64 0, .int .i64 0, .slice none 0 0] 87) (.cells #[.bool false, .int .i64 0, .int .i64 0] 44))
  have hm : l.length ≤ 9223372036854775807 := by obtain ⟨_, _, h1⟩ := Bytes.at hB; unfold maxLen at *; omega
  have qc := hide_ (fun W hW => cut_no _ l W (hB.later (w' := W) hW) h)
  clear hB h
  go_enter Tryz.func105, Tryz.ntmps105
  go_wp2_with (first | (go_at_call 127; refine (qc.out _ B0.out).mono ?_; rintro e w2 ⟨rfl, b2⟩; have k2 := hide_ (B0.out.trans (b2.mono B0.out.size)); have R2 := hide_ (R0.out.later b2); have F2 := hide_ (F0.out.later b2); clear b2) | (go_at_call 104; refine (refuse6_any 12 _).mono ?_; rintro e w9 ⟨rfl, b9⟩; have k9 := k2.out.trans (b9.mono k2.out.size); obtain ⟨r0, r1, r2, r3, r4, r5, r6, r7⟩ := (R2.out.later b9).k4; obtain ⟨s0, s1, s2, s3, s4, s5⟩ := ((F2.out.later b9).fark4 (f := w.heap.size) (by omega) (.int .i64 0) (.int .i64 0) (.int .i64 0) (.slice none 0 0)).three; obtain ⟨u0, u1, u2, u3, -⟩ := (((R2.out.later b9).setk4 (.int .i64 0) (.int .i64 0) (.int .i64 0) (.slice none 0 0)).farx3 (f := (w.heap.size + 1)) (by omega) (.bool true) (.int .i64 6) (.int .i64 12)).k4; obtain ⟨u4, u5, u6, -⟩ := (((F2.out.later b9).fark4 (f := w.heap.size) (by omega) (.int .i64 0) (.int .i64 0) (.int .i64 0) (.slice none 0 0)).set3 (.bool true) (.int .i64 6) (.int .i64 12)).three; have bb := below_set3 (g := (w.heap.size + 1)) (below_setk4 (g := w.heap.size) k9 (Nat.le_refl _) (.int .i64 0) (.int .i64 0) (.int .i64 0) (.slice none 0 0)) (by omega) (.bool true) (.int .i64 6) (.int .i64 12)))
  exact bodyPost_ret (v := .tuple #[.agg #[.int .i64 0, .int .i64 0, .int .i64 0, .slice none 0 0], .int .i64 0, .agg #[.bool true, .int .i64 6, .int .i64 12]]) (by simp [results, Tryz.results105, go_sem, u0, u1, u2, u3, u4, u5, u6]) rfl ⟨rfl, bb⟩

set_option maxRecDepth 100000 in
set_option maxHeartbeats 8000000 in
theorem read_bad2 (ao : Option Addr) (cap : Nat) (l : List Int) (N : Nat) (w : World) (hB : Bytes w (.slice ao l.length cap) l) (h : cutOk l) (hN : be2 l 0 = (N : Int)) (hz : nzB (((l.take N).take 16).drop 12) = true) :
    Calls Tryz.prog 105 #[.slice ao l.length cap] w fun e w' => e = .returned (.tuple #[.agg #[.int .i64 0, .int .i64 0, .int .i64 0, .slice none 0 0], .int .i64 0, .agg #[.bool true, .int .i64 6, .int .i64 12]]) ∧ Below w.heap.size w w' := by
  have R0 := hide_ ((AB.at0 w 87 [.int .i64 0, .int .i64 0, .int .i64 0, .slice none 0 0]).alloc (.cells #[.bool false, .int .i64 0, .int .i64 0] 44))
  have F0 := hide_ (AB.at1 w (.cells #[.int .i64 0, .int .i64 0, .int .i64 0, .slice none 0 0] 87) 44 [.bool false, .int .i64 0, .int .i64 0])
  have B0 := hide_ (below2 w (.cells #[.int .i64 0, .int .i64 0, .int .i64 0, .slice none 0 0] 87) (.cells #[.bool false, .int .i64 0, .int .i64 0] 44))
  have hm : l.length ≤ 9223372036854775807 := by obtain ⟨_, _, h1⟩ := Bytes.at hB; unfold maxLen at *; omega
  have h16 : 16 ≤ N := by unfold cutOk at h; omega
  have hle : N ≤ l.length := by unfold cutOk at h; omega
  obtain ⟨ao1, sl1, b1⟩ := bytes_cut hB N (by omega) hle
  have lt1 : (l.take N).length = N := by rw [List.length_take, Nat.min_eq_left hle]
  obtain ⟨ao2, sl2, b2⟩ := bytes_mid b1 12 16 (by omega) (by rw [lt1]; exact h16)
  have sl2 : ∀ wx, (Instr.slice 25 (.slice ao1 N N) (some (.int .i64 12)) (some (.int .i64 16)) none).run Tryz.prog wx = .ok (.slice ao2 4 (N - 12)) wx := sl2
  have qc := hide_ (fun W hW => cut_yes ao ao1 cap l N W (hB.later (w' := W) hW) h hN sl1)
  have qn := fun W hW => bcont_any _ _ W (b2.later (w' := W) hW)
  rw [hz] at qn
  have qn := hide_ qn
  clear hB h hN hz b1 b2
  go_enter Tryz.func105, Tryz.ntmps105
  go_wp2_with (first | (go_at_call 127; refine (qc.out _ B0.out).mono ?_; rintro e w2 ⟨rfl, b2⟩; have k2 := hide_ (B0.out.trans (b2.mono B0.out.size)); have R2 := hide_ (R0.out.later b2); have F2 := hide_ (F0.out.later b2); clear b2) | (go_at_call 121; refine (qn.out _ k2.out).mono ?_; rintro e w3 ⟨rfl, b3⟩; have k3 := hide_ (k2.out.trans (b3.mono k2.out.size)); have R3 := hide_ (R2.out.later b3); have F3 := hide_ (F2.out.later b3); clear b3) | (go_at_call 104; refine (refuse6_any 12 _).mono ?_; rintro e w9 ⟨rfl, b9⟩; have k9 := k3.out.trans (b9.mono k3.out.size); obtain ⟨r0, r1, r2, r3, r4, r5, r6, r7⟩ := (R3.out.later b9).k4; obtain ⟨s0, s1, s2, s3, s4, s5⟩ := ((F3.out.later b9).fark4 (f := w.heap.size) (by omega) (.int .i64 0) (.int .i64 0) (.int .i64 0) (.slice none 0 0)).three; obtain ⟨u0, u1, u2, u3, -⟩ := (((R3.out.later b9).setk4 (.int .i64 0) (.int .i64 0) (.int .i64 0) (.slice none 0 0)).farx3 (f := (w.heap.size + 1)) (by omega) (.bool true) (.int .i64 6) (.int .i64 12)).k4; obtain ⟨u4, u5, u6, -⟩ := (((F3.out.later b9).fark4 (f := w.heap.size) (by omega) (.int .i64 0) (.int .i64 0) (.int .i64 0) (.slice none 0 0)).set3 (.bool true) (.int .i64 6) (.int .i64 12)).three; have bb := below_set3 (g := (w.heap.size + 1)) (below_setk4 (g := w.heap.size) k9 (Nat.le_refl _) (.int .i64 0) (.int .i64 0) (.int .i64 0) (.slice none 0 0)) (by omega) (.bool true) (.int .i64 6) (.int .i64 12)))
  exact bodyPost_ret (v := .tuple #[.agg #[.int .i64 0, .int .i64 0, .int .i64 0, .slice none 0 0], .int .i64 0, .agg #[.bool true, .int .i64 6, .int .i64 12]]) (by simp [results, Tryz.results105, go_sem, u0, u1, u2, u3, u4, u5, u6]) rfl ⟨rfl, bb⟩

set_option maxRecDepth 100000 in
set_option maxHeartbeats 8000000 in
theorem read_flt (ao : Option Addr) (cap : Nat) (l : List Int) (N : Nat) (z : Int) (w : World) (hB : Bytes w (.slice ao l.length cap) l) (h : cutOk l) (hN : be2 l 0 = (N : Int)) (hz : nzB (((l.take N).take 16).drop 12) = false) (hP : ∀ (v : Value) (W : World), Bytes W v ((l.take N).drop 16) → Calls Tryz.prog 93 #[v] W fun e w' => (e = .returned (.tuple #[.slice none 0 0, .agg #[.bool true, .int .i64 2, .int .i64 z]])) ∧ Below W.heap.size W w') :
    Calls Tryz.prog 105 #[.slice ao l.length cap] w fun e w' => e = .returned (.tuple #[.agg #[.int .i64 0, .int .i64 0, .int .i64 0, .slice none 0 0], .int .i64 0, .agg #[.bool true, .int .i64 2, .int .i64 z]]) ∧ Below w.heap.size w w' := by
  have R0 := hide_ ((AB.at0 w 87 [.int .i64 0, .int .i64 0, .int .i64 0, .slice none 0 0]).alloc (.cells #[.bool false, .int .i64 0, .int .i64 0] 44))
  have F0 := hide_ (AB.at1 w (.cells #[.int .i64 0, .int .i64 0, .int .i64 0, .slice none 0 0] 87) 44 [.bool false, .int .i64 0, .int .i64 0])
  have B0 := hide_ (below2 w (.cells #[.int .i64 0, .int .i64 0, .int .i64 0, .slice none 0 0] 87) (.cells #[.bool false, .int .i64 0, .int .i64 0] 44))
  have hm : l.length ≤ 9223372036854775807 := by obtain ⟨_, _, h1⟩ := Bytes.at hB; unfold maxLen at *; omega
  have h16 : 16 ≤ N := by unfold cutOk at h; omega
  have hle : N ≤ l.length := by unfold cutOk at h; omega
  obtain ⟨ao1, sl1, b1⟩ := bytes_cut hB N (by omega) hle
  have lt1 : (l.take N).length = N := by rw [List.length_take, Nat.min_eq_left hle]
  obtain ⟨ao2, sl2, b2⟩ := bytes_mid b1 12 16 (by omega) (by rw [lt1]; exact h16)
  have sl2 : ∀ wx, (Instr.slice 25 (.slice ao1 N N) (some (.int .i64 12)) (some (.int .i64 16)) none).run Tryz.prog wx = .ok (.slice ao2 4 (N - 12)) wx := sl2
  have qc := hide_ (fun W hW => cut_yes ao ao1 cap l N W (hB.later (w' := W) hW) h hN sl1)
  have qn := fun W hW => bcont_any _ _ W (b2.later (w' := W) hW)
  rw [hz] at qn
  have qn := hide_ qn
  obtain ⟨ao3, -, sl3, b3⟩ := bytes_slice b1 16 (by rw [lt1]; exact h16)
  have sl3 : ∀ wx, (Instr.slice 25 (.slice ao1 N N) (some (.int .i64 16)) none none).run Tryz.prog wx = .ok (.slice ao3 (N - 16) (N - 16)) wx := sl3
  have hmN : N ≤ 9223372036854775807 := by omega
  have qd := hide_ (fun W hW => hP _ W (b3.later (w' := W) hW))
  clear hB h hN hz hP b1 b2 b3
  go_enter Tryz.func105, Tryz.ntmps105
  go_upto_region 6 with (first | (go_at_call 127; refine (qc.out _ B0.out).mono ?_; rintro e w2 ⟨rfl, b2⟩; have k2 := hide_ (B0.out.trans (b2.mono B0.out.size)); have R2 := hide_ (R0.out.later b2); have F2 := hide_ (F0.out.later b2); clear b2) | (go_at_call 121; refine (qn.out _ k2.out).mono ?_; rintro e w3 ⟨rfl, b3⟩; have k3 := hide_ (k2.out.trans (b3.mono k2.out.size)); have R3 := hide_ (R2.out.later b3); have F3 := hide_ (F2.out.later b3); clear b3) | (go_at_call 93; refine (qd.out _ k3.out).mono ?_; rintro e w4 ⟨rfl, b4⟩; have k4 := hide_ (k3.out.trans (b4.mono k3.out.size)); have R4 := hide_ (R3.out.later b4); have F4 := hide_ (F3.out.later b4); obtain ⟨f0, f1, f2, -⟩ := (AB.at0 w4 44 [.bool true, .int .i64 2, .int .i64 z]).three; clear b4))
  have k4x : Below w.heap.size w (w4.alloc (.cells #[.bool true, .int .i64 2, .int .i64 z] 44)) := k4.out.trans ((below1 w4 _).mono k4.out.size)
  have RX := hide_ (R4.out.alloc (.cells #[.bool true, .int .i64 2, .int .i64 z] 44))
  have FX := hide_ (F4.out.alloc (.cells #[.bool true, .int .i64 2, .int .i64 z] 44))
  have hgw : w.heap.size + 2 ≤ w4.heap.size := by have := F4.out.lt; omega
  generalize (w4.alloc (.cells #[.bool true, .int .i64 2, .int .i64 z] 44)) = X at *
  have RD : AB X.drew w.heap.size 87 [.int .i64 0, .int .i64 0, .int .i64 0, .slice none 0 0] := RX.out
  have FD : AB X.drew (w.heap.size + 1) 44 [.bool false, .int .i64 0, .int .i64 0] := FX.out
  obtain ⟨r0, r1, r2, r3, r4, r5, r6, r7⟩ := RD.k4
  obtain ⟨s0, s1, s2, s3, s4, s5⟩ := (FD.fark4 (f := w.heap.size) (by omega) (.int .i64 0) (.int .i64 0) (.int .i64 0) (.slice none 0 0)).three
  obtain ⟨u0, u1, u2, u3, -⟩ := ((RD.setk4 (.int .i64 0) (.int .i64 0) (.int .i64 0) (.slice none 0 0)).farx3 (f := (w.heap.size + 1)) (by omega) (.bool true) (.int .i64 2) (.int .i64 z)).k4
  obtain ⟨u4, u5, u6, -⟩ := ((FD.fark4 (f := w.heap.size) (by omega) (.int .i64 0) (.int .i64 0) (.int .i64 0) (.slice none 0 0)).set3 (.bool true) (.int .i64 2) (.int .i64 z)).three
  have bb := below_set3 (g := (w.heap.size + 1)) (below_setk4 (g := w.heap.size) k4x.drew (Nat.le_refl _) (.int .i64 0) (.int .i64 0) (.int .i64 0) (.slice none 0 0)) (by omega) (.bool true) (.int .i64 2) (.int .i64 z)
  clear RD FD bb
  refine wp_region_held_drew (S := (fun w' => w'.cell? ⟨w4.heap.size, 0, none⟩ = some (.bool true) ∧ w'.cell? ⟨w4.heap.size, 1, none⟩ = some (.int .i64 2) ∧ w'.cell? ⟨w4.heap.size, 2, none⟩ = some (.int .i64 z) ∧ Below w.heap.size w w')) (by kernel_rfl) (⟨f0, f1, f2, k4x.drew⟩) (fun hHeld => ?_)
  generalize X.drew = D at *
  refine takeR (i := 0) (v := ?_) rfl (by kernel_rfl) (by kernel_rfl) (by kernel_rfl) (some 32) rfl (Or.inl ⟨by rfl, ?_⟩) (fun _ _ _ h => h) (by assumption) ?_
  rotate_left
  · intro w hSw; (try dsimp only at hSw); go_simp; (try with_reducible rfl)
  simp only [Act.put, List.setIfInBounds_toArray, List.set_cons_zero, List.set_cons_succ]
  refine takeR (i := 1) (v := ?_) rfl (by kernel_rfl) (by kernel_rfl) (by kernel_rfl) (some 33) rfl (Or.inl ⟨by rfl, ?_⟩) (fun _ _ _ h => h) (by assumption) ?_
  rotate_left
  · intro w hSw; (try dsimp only at hSw); go_simp; (try with_reducible rfl)
  simp only [Act.put, List.setIfInBounds_toArray, List.set_cons_zero, List.set_cons_succ]
  refine wpAnyH_ready (rs := [2]) (by kernel_rfl) (by simp) ?_
  refine AllReadyH.cons rfl (fun K hK => ?_) (AllReadyH.nil)
  go_simp
  refine hK.out _ _ (⟨(cell_fillK (by dsimp only; omega) _ _ _ _).trans hHeld.1, (cell_fillK (by dsimp only; omega) _ _ _ _).trans hHeld.2.1, (cell_fillK (by dsimp only; omega) _ _ _ _).trans hHeld.2.2.1, below_setk4 (g := w.heap.size) hHeld.2.2.2 (Nat.le_refl _) _ _ _ _⟩) (fun hHeld => ?_)
  clear hK K
  try simp only [Act.put, List.setIfInBounds_toArray, List.set_cons_zero, List.set_cons_succ]
  refine takeR (i := 3) (v := ?_) rfl (by kernel_rfl) (by kernel_rfl) (by kernel_rfl) (some 3) rfl (Or.inl ⟨by rfl, ?_⟩) (fun _ _ _ h => h) (by assumption) ?_
  rotate_left
  · intro w hSw; (try dsimp only at hSw); go_simp; (try with_reducible rfl)
  simp only [Act.put, List.setIfInBounds_toArray, List.set_cons_zero, List.set_cons_succ]
  refine wpAnyH_ready (rs := [4]) (by kernel_rfl) (by simp) ?_
  refine AllReadyH.cons rfl (fun K hK => ?_) (AllReadyH.nil)
  go_simp
  refine hK.out _ _ (kW3_3 hHeld (by omega) (by dsimp only; omega) (by dsimp only; omega) (by dsimp only; omega)) (fun hHeld => ?_)
  clear hK K
  try simp only [Act.put, List.setIfInBounds_toArray, List.set_cons_zero, List.set_cons_succ]
  refine wpAnyH_done (by kernel_rfl) ?_ _
  go_wp2_with fail
  exact bodyPost_ret (v := .tuple #[.agg #[.int .i64 0, .int .i64 0, .int .i64 0, .slice none 0 0], .int .i64 0, .agg #[.bool true, .int .i64 2, .int .i64 z]]) (by simp [results, Tryz.results105, go_sem, u0, u1, u2, u3, u4, u5, u6]) rfl ⟨rfl, hHeld.2.2.2⟩
end

section
open Go Go.RowKit
set_option linter.unusedVariables false
set_option linter.unusedSimpArgs false

theorem far4row {w : World} {base g n sz : Nat} {e : TypeId} {v : Value} {xs : List Value} (ho : w.ownsRow base e sz v n xs) (hg : g < base) : ∀ x y z u : Value, ((((w.setCell ⟨g, 0, none⟩ x).setCell ⟨g, 1, none⟩ y).setCell ⟨g, 2, none⟩ z).setCell ⟨g, 3, none⟩ u).ownsRow base e sz v n xs := by
  intro x y z u
  refine ⟨ho.1, ?_⟩
  rcases ho.2 with hn | ⟨g', cap, cur, rfl, hb, hgg, rest⟩
  · exact .inl hn
  · refine .inr ⟨g', cap, cur, rfl, hb, ?_, rest⟩
    have far : ∀ (w : World) (j : Nat) (u : Value), (w.setCell ⟨g, j, none⟩ u).heap[g']? = w.heap[g']? := fun w j u => Below.heap_setCell w _ u g' (by show g' ≠ g; omega)
    rw [far, far, far, far]
    exact hgg

set_option maxRecDepth 100000 in
set_option maxHeartbeats 8000000 in
theorem read_ok (ao : Option Addr) (cap : Nat) (l : List Int) (N : Nat) (L : List A11) (w : World) (hB : Bytes w (.slice ao l.length cap) l) (h : cutOk l) (hN : be2 l 0 = (N : Int)) (hz : nzB (((l.take N).take 16).drop 12) = false) (hP : AOk Ans ((l.take N).drop 16) L) (hLL : L.length ≤ 100) :
    Calls Tryz.prog 105 #[.slice ao l.length cap] w fun e w' => (∃ r, e = .returned (.tuple #[.agg #[.int .i64 (be2 (l.take N) 2), .int .i64 (be4 (l.take N) 4), .int .i64 (be4 (l.take N) 8), r], .int .i64 (N : Int), .agg #[.bool false, .int .i64 0, .int .i64 0]]) ∧ w'.ownsRow w.heap.size 61 11 r L.length (ads L)) ∧ Below w.heap.size w w' := by
  have R0 := hide_ ((AB.at0 w 87 [.int .i64 0, .int .i64 0, .int .i64 0, .slice none 0 0]).alloc (.cells #[.bool false, .int .i64 0, .int .i64 0] 44))
  have F0 := hide_ (AB.at1 w (.cells #[.int .i64 0, .int .i64 0, .int .i64 0, .slice none 0 0] 87) 44 [.bool false, .int .i64 0, .int .i64 0])
  have B0 := hide_ (below2 w (.cells #[.int .i64 0, .int .i64 0, .int .i64 0, .slice none 0 0] 87) (.cells #[.bool false, .int .i64 0, .int .i64 0] 44))
  have hm : l.length ≤ 9223372036854775807 := by obtain ⟨_, _, h1⟩ := Bytes.at hB; unfold maxLen at *; omega
  have h16 : 16 ≤ N := by unfold cutOk at h; omega
  have hle : N ≤ l.length := by unfold cutOk at h; omega
  obtain ⟨ao1, sl1, b1⟩ := bytes_cut hB N (by omega) hle
  have lt1 : (l.take N).length = N := by rw [List.length_take, Nat.min_eq_left hle]
  obtain ⟨ao2, sl2, b2⟩ := bytes_mid b1 12 16 (by omega) (by rw [lt1]; exact h16)
  have sl2 : ∀ wx, (Instr.slice 25 (.slice ao1 N N) (some (.int .i64 12)) (some (.int .i64 16)) none).run Tryz.prog wx = .ok (.slice ao2 4 (N - 12)) wx := sl2
  have qc := hide_ (fun W hW => cut_yes ao ao1 cap l N W (hB.later (w' := W) hW) h hN sl1)
  have qn := fun W hW => bcont_any _ _ W (b2.later (w' := W) hW)
  rw [hz] at qn
  have qn := hide_ qn
  obtain ⟨ao3, -, sl3, b3⟩ := bytes_slice b1 16 (by rw [lt1]; exact h16)
  have sl3 : ∀ wx, (Instr.slice 25 (.slice ao1 N N) (some (.int .i64 16)) none none).run Tryz.prog wx = .ok (.slice ao3 (N - 16) (N - 16)) wx := sl3
  have hmN : N ≤ 9223372036854775807 := by omega
  have qd := hide_ (fun W hW => ad_ok _ _ L W (b3.later (w' := W) hW) hP hLL)
  have q2 := hide_ (fun W hW => nget2 _ (l.take N) 2 W (b1.later (w' := W) hW) (by omega))
  have q4 := hide_ (fun W hW => nget4 _ (l.take N) 4 W (b1.later (w' := W) hW) (by omega))
  have q8 := hide_ (fun W hW => nget4 _ (l.take N) 8 W (b1.later (w' := W) hW) (by omega))
  generalize be2 (l.take N) 2 = v1 at *
  generalize be4 (l.take N) 4 = v2 at *
  generalize be4 (l.take N) 8 = v3 at *
  clear hB h hN hz hP b1 b2 b3
  go_enter Tryz.func105, Tryz.ntmps105
  go_upto_region 11 with (first | (go_at_call 127; refine (qc.out _ B0.out).mono ?_; rintro e w2 ⟨rfl, b2⟩; have k2 := hide_ (B0.out.trans (b2.mono B0.out.size)); have R2 := hide_ (R0.out.later b2); have F2 := hide_ (F0.out.later b2); clear b2) | (go_at_call 121; refine (qn.out _ k2.out).mono ?_; rintro e w3 ⟨rfl, b3⟩; have k3 := hide_ (k2.out.trans (b3.mono k2.out.size)); have R3 := hide_ (R2.out.later b3); have F3 := hide_ (F2.out.later b3); clear b3) | (go_at_call 93; refine (qd.out _ k3.out).mono ?_; rintro e w4 ⟨⟨r, rfl, ho⟩, b4⟩; obtain ⟨ua, uc, e4⟩ := ownr_form ho; subst e4; have HO4 := hide_ ho; have k4 := hide_ (k3.out.trans (b4.mono k3.out.size)); have R4 := hide_ (R3.out.later b4); have F4 := hide_ (F3.out.later b4); obtain ⟨f0, f1, f2, -⟩ := (AB.at0 w4 44 [.bool false, .int .i64 0, .int .i64 0]).three; have XV := hide_ (AB.at1 w4 (.cells #[.bool false, .int .i64 0, .int .i64 0] 44) 87 [.int .i64 0, .int .i64 0, .int .i64 0, (.slice ua L.length uc)]); have jV := hide_ (below2 w4 (.cells #[.bool false, .int .i64 0, .int .i64 0] 44) (.cells #[.int .i64 0, .int .i64 0, .int .i64 0, (.slice ua L.length uc)] 87)); have kV := hide_ (k4.out.trans (jV.out.mono k4.out.size)); have hs3 : w.heap.size + 2 ≤ w3.heap.size := (by have := F3.out.lt; omega); have hs4 : w3.heap.size ≤ w4.heap.size := b4.size; clear b4 ho) | (go_at_call_of 89 (Value.int IntKind.i64 8); refine (q8.out _ kS6.out).mono ?_; rintro e w7 ⟨er7, rfl, b7⟩; have j7 := hide_ (jS6.out.trans (b7.mono jS6.out.size)); have X7 := hide_ (XS6.out.later b7); obtain ⟨z07, z17, z27, z37, z47, z57, z67, z77⟩ := X7.out.k4; have jS7 := hide_ (j7.out.setCell (p := ⟨w4.heap.size + 1, 2, none⟩) (by dsimp only; omega) (.int .i64 v3)); have XS7 : Hid (AB (w7.setCell ⟨w4.heap.size + 1, 2, none⟩ (.int .i64 v3)) (w4.heap.size + 1) 87 [(.int .i64 v1), (.int .i64 v2), (.int .i64 v3), (.slice ua L.length uc)]) := hide_ (X7.out.set (j := 2) (.int .i64 v3)); have kS7 := hide_ (k4.out.trans (jS7.out.mono k4.out.size)); clear b7) | (go_at_call_of 89 (Value.int IntKind.i64 4); refine (q4.out _ kS5.out).mono ?_; rintro e w6 ⟨er6, rfl, b6⟩; have j6 := hide_ (jS5.out.trans (b6.mono jS5.out.size)); have X6 := hide_ (XS5.out.later b6); obtain ⟨z06, z16, z26, z36, z46, z56, z66, z76⟩ := X6.out.k4; have jS6 := hide_ (j6.out.setCell (p := ⟨w4.heap.size + 1, 1, none⟩) (by dsimp only; omega) (.int .i64 v2)); have XS6 : Hid (AB (w6.setCell ⟨w4.heap.size + 1, 1, none⟩ (.int .i64 v2)) (w4.heap.size + 1) 87 [(.int .i64 v1), (.int .i64 v2), .int .i64 0, (.slice ua L.length uc)]) := hide_ (X6.out.set (j := 1) (.int .i64 v2)); have kS6 := hide_ (k4.out.trans (jS6.out.mono k4.out.size)); clear b6) | (go_at_call_of 89 (Value.int IntKind.i64 2); refine (q2.out _ kV.out).mono ?_; rintro e w5 ⟨er5, rfl, b5⟩; have j5 := hide_ (jV.out.trans (b5.mono jV.out.size)); have X5 := hide_ (XV.out.later b5); obtain ⟨z05, z15, z25, z35, z45, z55, z65, z75⟩ := X5.out.k4; have jS5 := hide_ (j5.out.setCell (p := ⟨w4.heap.size + 1, 0, none⟩) (by dsimp only; omega) (.int .i64 v1)); have XS5 : Hid (AB (w5.setCell ⟨w4.heap.size + 1, 0, none⟩ (.int .i64 v1)) (w4.heap.size + 1) 87 [(.int .i64 v1), .int .i64 0, .int .i64 0, (.slice ua L.length uc)]) := hide_ (X5.out.set (j := 0) (.int .i64 v1)); have kS5 := hide_ (k4.out.trans (jS5.out.mono k4.out.size)); clear b5))
  have RS := R4.out.later jS7.out
  have FS := F4.out.later jS7.out
  have OS := hide_ (ownr_later HO4.out jS7.out)
  have XS := XS7.out
  have KS := kS7.out
  generalize w7.setCell ⟨w4.heap.size + 1, 2, none⟩ (.int .i64 v3) = V at *
  obtain ⟨x0, x1, x2, x3, -⟩ := XS.k4
  obtain ⟨r0, r1, r2, r3, r4, r5, r6, r7⟩ := RS.k4
  obtain ⟨s0, s1, s2, s3, s4, s5⟩ := (FS.fark4 (f := w.heap.size) (by omega) (.int .i64 v1) (.int .i64 v2) (.int .i64 v3) ((.slice ua L.length uc))).three
  obtain ⟨u0, u1, u2, u3, -⟩ := ((RS.setk4 (.int .i64 v1) (.int .i64 v2) (.int .i64 v3) ((.slice ua L.length uc))).farx3 (f := (w.heap.size + 1)) (by omega) (.bool false) (.int .i64 0) (.int .i64 0)).k4
  obtain ⟨u4, u5, u6, -⟩ := ((FS.fark4 (f := w.heap.size) (by omega) (.int .i64 v1) (.int .i64 v2) (.int .i64 v3) ((.slice ua L.length uc))).set3 (.bool false) (.int .i64 0) (.int .i64 0)).three
  have bb := below_set3 (g := (w.heap.size + 1)) (below_setk4 (g := w.heap.size) KS (Nat.le_refl _) (.int .i64 v1) (.int .i64 v2) (.int .i64 v3) ((.slice ua L.length uc))) (by omega) (.bool false) (.int .i64 0) (.int .i64 0)
  go_wp2_with fail
  exact bodyPost_ret (v := .tuple #[.agg #[.int .i64 v1, .int .i64 v2, .int .i64 v3, (.slice ua L.length uc)], .int .i64 (N : Int), .agg #[.bool false, .int .i64 0, .int .i64 0]]) (by simp [results, Tryz.results105, go_sem, u0, u1, u2, u3, u4, u5, u6]) rfl ⟨⟨_, rfl, ownr_base (far3row (far4row OS.out (by omega) _ _ _ _) (by omega) _ _ _) (by omega)⟩, bb⟩
end

section
open Go Go.RowKit
set_option linter.unusedVariables false
set_option linter.unusedSimpArgs false

/-- a bucket that bytes begin with, its actions told by D -/
def KStep (D : List Int → Value → Prop) (l : List Int) (N : Nat) (L : List A11) : Prop := cutOk l ∧ be2 l 0 = (N : Int) ∧ nzB (((l.take N).take 16).drop 12) = false ∧ AOk D ((l.take N).drop 16) L ∧ L.length ≤ 100
def bkOf (l : List Int) (N : Nat) (L : List A11) : BK := (be2 (l.take N) 2, be4 (l.take N) 4, be4 (l.take N) 8, L)
def KHere (D : List Int → Value → Prop) (l : List Int) (c d : Int) : Prop := 0 < l.length ∧ ((¬ cutOk l ∧ c = 6 ∧ d = 12) ∨ ∃ N : Nat, cutOk l ∧ be2 l 0 = (N : Int) ∧ ((nzB (((l.take N).take 16).drop 12) = true ∧ c = 6 ∧ d = 12) ∨ (nzB (((l.take N).take 16).drop 12) = false ∧ c = 2 ∧ (ABad D ((l.take N).drop 16) d ∨ (d = 7 ∧ ∃ L, AOk D ((l.take N).drop 16) L ∧ 100 < L.length)))))
inductive BOk (D : List Int → Value → Prop) : List Int → List BK → Prop
  | nil : BOk D [] []
  | cons {l : List Int} {N : Nat} {L : List A11} {Ls : List BK} : KStep D l N L → BOk D (l.drop N) Ls → BOk D l (bkOf l N L :: Ls)
inductive BBad (D : List Int → Value → Prop) : List Int → Int → Int → Prop
  | here {l : List Int} {c d : Int} : KHere D l c d → BBad D l c d
  | cons {l : List Int} {N : Nat} {L : List A11} {c d : Int} : KStep D l N L → BBad D (l.drop N) c d → BBad D l c d
theorem isB_dropK {l : List Int} (h : isB l) (n : Nat) : isB (l.drop n) := fun z hz => h z (List.mem_of_mem_drop hz)
theorem isB_takeK {l : List Int} (h : isB l) (n : Nat) : isB (l.take n) := fun z hz => h z (List.mem_of_mem_take hz)
theorem bucks_all (M : Nat) : ∀ l : List Int, l.length ≤ M → isB l → (∃ Ls, BOk Ans l Ls ∧ BOk RAns l Ls) ∨ ∃ c d, BBad Ans l c d ∧ BBad RAns l c d := by
  induction M with
  | zero =>
    intro l h _
    have e : l = [] := List.eq_nil_of_length_eq_zero (by omega)
    subst e
    exact .inl ⟨[], .nil, .nil⟩
  | succ M ih =>
    intro l h hl
    by_cases h0 : l.length = 0
    · have e : l = [] := List.eq_nil_of_length_eq_zero h0
      subst e
      exact .inl ⟨[], .nil, .nil⟩
    by_cases hc : cutOk l
    · have hz := be2_range hl 0
      obtain ⟨N, hN⟩ : ∃ N : Nat, be2 l 0 = (N : Int) := ⟨(be2 l 0).toNat, by omega⟩
      have h16 : 16 ≤ N := by unfold cutOk at hc; omega
      cases hn : nzB (((l.take N).take 16).drop 12)
      · rcases acts_all _ ((l.take N).drop 16) (Nat.le_refl _) (isB_dropK (isB_takeK hl N) 16) with ⟨L, h1, h2⟩ | ⟨z, h1, h2⟩
        · by_cases h100 : L.length ≤ 100
          · rcases ih (l.drop N) (by rw [List.length_drop]; omega) (isB_dropK hl N) with ⟨Ls, k1, k2⟩ | ⟨c, d, k1, k2⟩
            · exact .inl ⟨_, .cons ⟨hc, hN, hn, h1, h100⟩ k1, .cons ⟨hc, hN, hn, h2, h100⟩ k2⟩
            · exact .inr ⟨c, d, .cons ⟨hc, hN, hn, h1, h100⟩ k1, .cons ⟨hc, hN, hn, h2, h100⟩ k2⟩
          · exact .inr ⟨2, 7, .here ⟨by omega, .inr ⟨N, hc, hN, .inr ⟨hn, rfl, .inr ⟨rfl, L, h1, by omega⟩⟩⟩⟩, .here ⟨by omega, .inr ⟨N, hc, hN, .inr ⟨hn, rfl, .inr ⟨rfl, L, h2, by omega⟩⟩⟩⟩⟩
        · exact .inr ⟨2, z, .here ⟨by omega, .inr ⟨N, hc, hN, .inr ⟨hn, rfl, .inl h1⟩⟩⟩, .here ⟨by omega, .inr ⟨N, hc, hN, .inr ⟨hn, rfl, .inl h2⟩⟩⟩⟩
      · exact .inr ⟨6, 12, .here ⟨by omega, .inr ⟨N, hc, hN, .inl ⟨hn, rfl, rfl⟩⟩⟩, .here ⟨by omega, .inr ⟨N, hc, hN, .inl ⟨hn, rfl, rfl⟩⟩⟩⟩
    · exact .inr ⟨6, 12, .here ⟨by omega, .inl ⟨hc, rfl, rfl⟩⟩, .here ⟨by omega, .inl ⟨hc, rfl, rfl⟩⟩⟩
theorem bread_here (ao : Option Addr) (cap : Nat) (l : List Int) (c d : Int) (w : World) (hB : Bytes w (.slice ao l.length cap) l) (h : KHere Ans l c d) :
    Calls Tryz.prog 105 #[.slice ao l.length cap] w fun e w' => e = .returned (.tuple #[.agg #[.int .i64 0, .int .i64 0, .int .i64 0, .slice none 0 0], .int .i64 0, .agg #[.bool true, .int .i64 c, .int .i64 d]]) ∧ Below w.heap.size w w' := by
  rcases h.2 with ⟨h1, rfl, rfl⟩ | ⟨N, h1, h2, ⟨h3, rfl, rfl⟩ | ⟨h3, rfl, h4 | ⟨rfl, L, h4, h5⟩⟩⟩
  · exact read_bad1 ao cap l w hB h1
  · exact read_bad2 ao cap l N w hB h1 h2 h3
  · exact read_flt ao cap l N d w hB h1 h2 h3 (fun v W hv => ad_bad v _ d W hv h4)
  · exact read_flt ao cap l N 7 w hB h1 h2 h3 (fun v W hv => ad_many v _ L W hv h4 h5)
theorem bread_step (ao : Option Addr) (cap : Nat) (l : List Int) (N : Nat) (L : List A11) (w : World) (hB : Bytes w (.slice ao l.length cap) l) (h : KStep Ans l N L) :
    Calls Tryz.prog 105 #[.slice ao l.length cap] w fun e w' => (∃ r, e = .returned (.tuple #[.agg #[.int .i64 (bkOf l N L).1, .int .i64 (bkOf l N L).2.1, .int .i64 (bkOf l N L).2.2.1, r], .int .i64 (N : Int), .agg #[.bool false, .int .i64 0, .int .i64 0]]) ∧ w'.ownsRow w.heap.size 61 11 r L.length (ads L)) ∧ Below w.heap.size w w' :=
  read_ok ao cap l N L w hB h.1 h.2.1 h.2.2.1 h.2.2.2.1 h.2.2.2.2
/-! a list of buckets that is one's own -/
abbrev PB := BK × Value
def bcl (p : PB) : List Value := [.int .i64 p.1.1, .int .i64 p.1.2.1, .int .i64 p.1.2.2.1, p.2]
def bds (P : List PB) : List Value := P.flatMap bcl
theorem bds_snoc (P : List PB) (p : PB) : bds (P ++ [p]) = bds P ++ bcl p := by simp [bds]
theorem bds_at {P : List PB} {i j : Nat} {p : PB} (h : P[i]? = some p) (hj : j < 4) : (bds P)[i * 4 + j]? = (bcl p)[j]? := by
  induction P generalizing i with
  | nil => simp at h
  | cons x r ih =>
    cases i with
    | zero =>
      simp at h
      subst h
      unfold bds
      rw [List.flatMap_cons, List.getElem?_append_left (by simp [bcl]; omega)]
      simp
    | succ i =>
      have := ih (i := i) (by simpa using h)
      unfold bds at *
      rw [List.flatMap_cons, List.getElem?_append_right (by simp [bcl]; omega)]
      have e : (i + 1) * 4 + j - (bcl x).length = i * 4 + j := by simp [bcl]; omega
      rw [e]
      exact this
def BRow (w : World) (base : Nat) (u : Value) (P : List PB) : Prop := w.ownsRow base 87 4 u P.length (bds P) ∧ ∀ p ∈ P, w.ownsRow base 61 11 p.2 p.1.2.2.2.length (ads p.1.2.2.2)
theorem BRow.later {w w' : World} {base : Nat} {u : Value} {P : List PB} (h : BRow w base u P) (hb : Below w.heap.size w w') : BRow w' base u P := ⟨ownr_later h.1 hb, fun p hp => ownr_later (h.2 p hp) hb⟩
theorem BRow.nil (w : World) (base : Nat) : BRow w base (.slice none 0 0) [] := ⟨World.ownsRow_nil _ _ _ _, fun p hp => by cases hp⟩
theorem BRow.far3 {w : World} {base g : Nat} {u : Value} {P : List PB} (h : BRow w base u P) (hg : g < base) (x y z : Value) : BRow (((w.setCell ⟨g, 0, none⟩ x).setCell ⟨g, 1, none⟩ y).setCell ⟨g, 2, none⟩ z) base u P :=
  ⟨far3row h.1 hg x y z, fun p hp => far3row (h.2 p hp) hg x y z⟩
theorem own_grownK {w w' : World} {base base2 : Nat} {e e2 : TypeId} {size s2 : Nat} {v v2 : Value} {n n2 : Nat} {xs x2 : List Value} (h : w.ownsRow base e size v n xs) (h2 : w.ownsRow base2 e2 s2 v2 n2 x2) (hne : e ≠ e2) (hg : w.grownBy w' v2.ownBlock) : w'.ownsRow base e size v n xs := by
  refine ⟨h.1, ?_⟩
  rcases h.2 with k | ⟨g, cap, cur, rfl, hb, hk, r⟩
  · exact .inl k
  · refine .inr ⟨g, cap, cur, rfl, hb, ?_, r⟩
    rcases h2.2 with ⟨rfl, -⟩ | ⟨g2, cap2, cur2, rfl, -, hk2, -⟩
    · rw [hg.block g (Array.getElem?_eq_some_iff.1 hk).1 (fun e => by cases e)]
      exact hk
    · have hn : g ≠ g2 := by
        rintro rfl
        rw [hk] at hk2
        simp at hk2
        exact hne hk2.2
      rw [hg.block g (Array.getElem?_eq_some_iff.1 hk).1 (fun e => by injection e with e; exact hn e)]
      exact hk
theorem BRow.push {w0 w' : World} {base : Nat} {u u' : Value} {P : List PB} {p : PB} (h : BRow w0 base u P) (hp : w0.ownsRow base 61 11 p.2 p.1.2.2.2.length (ads p.1.2.2.2)) (ho : w'.ownsRow base 87 4 u' (P.length + 1) (bds P ++ bcl p)) (hg : (w0.alloc (.cells (bcl p).toArray 87)).grownBy w' u.ownBlock) : BRow w' base u' (P ++ [p]) := by
  have hr := ownr_later h.1 (below1 w0 (.cells (bcl p).toArray 87))
  refine ⟨by rw [List.length_append, bds_snoc]; exact ho, fun q hq => ?_⟩
  have key : ∀ q : PB, w0.ownsRow base 61 11 q.2 q.1.2.2.2.length (ads q.1.2.2.2) → w'.ownsRow base 61 11 q.2 q.1.2.2.2.length (ads q.1.2.2.2) := fun q hq => own_grownK (ownr_later hq (below1 w0 _)) hr (by decide) hg
  rcases List.mem_append.1 hq with hq | hq
  · exact key q (h.2 q hq)
  · rw [List.mem_singleton] at hq
    subst hq
    exact key _ hp
theorem BRow.at_ {w : World} {base : Nat} {u : Value} {P : List PB} (h : BRow w base u P) : BuckAt w u (P.map (·.1)) := by
  rcases h.1.2 with ⟨rfl, h0⟩ | ⟨g, cap, cur, rfl, hb, hg, h1, h2, h3, h4⟩
  · have e : P = [] := List.eq_nil_of_length_eq_zero h0
    subst e
    exact BuckAt.nil w
  · have hc := h.1.cells (g := g) rfl
    refine ⟨some ⟨g, 0, none⟩, cap, by rw [List.length_map], by rw [List.length_map]; exact h1, h2, (fun e => by cases e), fun i o hi => ?_⟩
    rw [List.getElem?_map] at hi
    obtain ⟨p, hp, rfl⟩ := Option.map_eq_some_iff.1 hi
    have k : ∀ j x, (bcl p)[j]? = some x → j < 4 → w.cell? ⟨g, 0 + i * 4 + j, none⟩ = some x := fun j x hx hj => by
      have := hc (i * 4 + j) x (by rw [bds_at hp hj]; exact hx)
      rw [Addr.add_lit] at this
      simpa [Nat.add_assoc] using this
    exact ⟨g, 0, p.2, rfl, k 0 _ rfl (by omega), k 1 _ rfl (by omega), k 2 _ rfl (by omega), k 3 _ rfl (by omega), ActAt.ofOwn (h.2 p (List.mem_of_getElem? hp))⟩
theorem infoBu : (Tryz.prog.info? 87).map (fun i => (i.zero, i.size, i.bytes)) = some (some (.agg #[.int .i64 0, .int .i64 0, .int .i64 0, .slice none 0 0]), 4, 48) := by kernel_rfl
end

section
open Go Go.RowKit
set_option linter.unusedVariables false
set_option linter.unusedSimpArgs false

theorem take_snocK {α : Type} {pre K : List α} {o : α} (h : K = pre.take 101) (hk : K.length ≤ 100) : K ++ [o] = (pre ++ [o]).take 101 := by
  have hp : pre.length ≤ 100 := by rw [h, List.length_take] at hk; omega
  have e : K = pre := by rw [h, List.take_of_length_le (by omega)]
  rw [e, List.take_of_length_le (by simp; omega)]
theorem take_skipK {α : Type} {pre K : List α} {o : α} (h : K = pre.take 101) (hk : ¬ K.length ≤ 100) : K = (pre ++ [o]).take 101 := by
  have hp : 101 ≤ pre.length := by rw [h, List.length_take] at hk; omega
  rw [h, List.take_append_of_le_length hp]

set_option maxRecDepth 100000 in
set_option maxHeartbeats 8000000 in
theorem bd_big (v : Value) (l0 : List Int) (w : World) (hB : Bytes w v l0) (h6 : 60000 < l0.length) :
    Calls Tryz.prog 69 #[v] w fun e w' => e = .returned (.tuple #[.slice none 0 0, .agg #[.bool true, .int .i64 6, .int .i64 12]]) ∧ Below w.heap.size w w' := by
  have F0 := hide_ (AB.at0 w 44 [.bool false, .int .i64 0, .int .i64 0])
  have B0 := hide_ (below1 w (.cells #[.bool false, .int .i64 0, .int .i64 0] 44))
  obtain ⟨ao0, cap0, rfl, hbr⟩ := hB
  have g6 : (60000 : Int) < (l0.length : Int) := by omega
  clear hbr h6
  go_enter Tryz.func69, Tryz.ntmps69
  go_wp2_with (go_at_call 104; refine (refuse6_any 12 _).mono ?_; rintro e w9 ⟨rfl, b9⟩; obtain ⟨s0, s1, s2, s3, s4, s5⟩ := (F0.out.later b9).three; obtain ⟨u0, u1, u2, -⟩ := ((F0.out.later b9).set3 (.bool true) (.int .i64 6) (.int .i64 12)).three; have bb := below_set3 (g := w.heap.size) (B0.out.trans (b9.mono B0.out.size)) (Nat.le_refl _) (.bool true) (.int .i64 6) (.int .i64 12))
  exact bodyPost_ret (v := .tuple #[.slice none 0 0, .agg #[.bool true, .int .i64 6, .int .i64 12]]) (by simp [results, Tryz.results69, go_sem, u0, u1, u2]) rfl ⟨rfl, bb⟩

set_option maxRecDepth 100000 in
set_option maxHeartbeats 8000000 in
theorem bd_many (v : Value) (l0 : List Int) (Ls : List BK) (w : World) (hB : Bytes w v l0) (h6 : l0.length ≤ 60000) (hP : BOk Ans l0 Ls) (hLL : 100 < Ls.length) :
    Calls Tryz.prog 69 #[v] w fun e w' => (e = .returned (.tuple #[.slice none 0 0, .agg #[.bool true, .int .i64 6, .int .i64 4]])) ∧ Below w.heap.size w w' := by
  have F0 := hide_ (AB.at0 w 44 [.bool false, .int .i64 0, .int .i64 0])
  have B0 := hide_ (below1 w (.cells #[.bool false, .int .i64 0, .int .i64 0] 44))
  obtain ⟨ao0, cap0, rfl, hbr⟩ := hB
  have hB : Bytes w (.slice ao0 l0.length cap0) l0 := ⟨ao0, cap0, rfl, hbr⟩
  have HB0 := hide_ (hB.later B0.out)
  have g6 : ¬ (60000 : Int) < (l0.length : Int) := by omega
  clear hB hbr h6
  obtain ⟨i0, hi0, hz0, hz1, hz2⟩ := info_parts infoBu
  have HI : Hid (Tryz.prog.info? 87 = some i0 ∧ i0.zero = some (.agg #[.int .i64 0, .int .i64 0, .int .i64 0, .slice none 0 0]) ∧ i0.size = 4 ∧ i0.bytes = 48) := ⟨hi0, hz0, hz1, hz2⟩
  clear hi0 hz0 hz1 hz2
  have HP := hide_ hP
  clear hP
  have HLL := hide_ hLL
  clear hLL
  go_enter Tryz.func69, Tryz.ntmps69
  go_wp2
  go_loopw [0, 4] (fun b u wr => ∃ (ao : Option Addr) (n cap : Nat) (ua : Option Addr) (uc m : Nat) (l : List Int) (pre : List BK) (P : List PB) (R : List BK), b = .slice ao n cap ∧ u = .slice ua m uc ∧ n = l.length ∧ m ≤ 101 ∧ Hid (m = P.length) ∧ Hid (Bytes (w.alloc (.cells #[.bool false, .int .i64 0, .int .i64 0] 44)) (.slice ao n cap) l) ∧ Hid (BRow wr (w.alloc (.cells #[.bool false, .int .i64 0, .int .i64 0] 44)).heap.size (.slice ua m uc) P) ∧ Hid (BOk Ans l R ∧ pre ++ R = Ls) ∧ Hid (P.map (·.1) = pre.take 101) ∧ Hid (Below (w.alloc (.cells #[.bool false, .int .i64 0, .int .i64 0] 44)).heap.size (w.alloc (.cells #[.bool false, .int .i64 0, .int .i64 0] 44)) wr)) (fun b _ _ => slen2 b)
  case atStart => exact ⟨ao0, l0.length, cap0, none, 0, 0, l0, [], [], Ls, rfl, rfl, rfl, by simp, hide_ rfl, HB0, hide_ (BRow.nil _ _), hide_ ⟨HP.out, rfl⟩, hide_ rfl, hide_ (Below.refl _ _)⟩
  case round =>
    obtain ⟨ao, n, cap, ua, uc, m, l, pre, P, R, rfl, rfl, rfl, hKl, HM, HBy, HOw, HPP, HK, KB⟩ := hrel
    obtain ⟨hpo, hpre⟩ := HPP.out
    clear HPP
    cases hpo with
    | nil =>
      have hpr : pre = Ls := by simpa using hpre
      have g100 : (100 : Int) < (m : Int) := by have h1 := congrArg List.length HK.out; rw [hpr, List.length_map, ← HM.out, List.length_take] at h1; have := HLL.out; omega
      clear hpre hpr
      go_wp2_with (go_at_call 104; refine (refuse6_any 4 _).mono ?_; rintro e w9 ⟨rfl, b9⟩; have K9 := KB.out.trans (b9.mono KB.out.size); obtain ⟨s0, s1, s2, s3, s4, s5⟩ := (F0.out.later K9).three; obtain ⟨u0, u1, u2, -⟩ := ((F0.out.later K9).set3 (.bool true) (.int .i64 6) (.int .i64 4)).three; have bb := below_set3 (g := w.heap.size) (B0.out.trans (K9.mono B0.out.size)) (Nat.le_refl _) (.bool true) (.int .i64 6) (.int .i64 4))
      exact bodyPost_ret (v := .tuple #[.slice none 0 0, .agg #[.bool true, .int .i64 6, .int .i64 4]]) (by simp [results, Tryz.results69, go_sem, u0, u1, u2]) rfl ⟨rfl, bb⟩
    | @cons _ nn LL RR hd hrest =>
      have hle : nn ≤ l.length := by have := hd.1; have h2 := hd.2.1; unfold cutOk at this; omega
      have h0 : 16 ≤ nn := by have := hd.1; have h2 := hd.2.1; unfold cutOk at this; omega
      have qd := bread_step ao cap l nn LL wr (HBy.out.later KB.out) hd
      obtain ⟨rn, hrn⟩ : ∃ rn, LL.length = rn := ⟨_, rfl⟩
      have HRN := hide_ hrn
      have HO1 : Hid ((bkOf l nn LL).2.2.2 = LL) := hide_ rfl
      obtain ⟨ao2, -, s2, b2⟩ := bytes_slice HBy.out nn hle
      have HB2 := hide_ b2
      have hrest := hide_ hrest
      have hpre := hide_ hpre
      obtain ⟨O, hO⟩ : ∃ O, bkOf l nn LL = O := ⟨_, rfl⟩
      rw [hO] at qd HO1
      have hpre2 : Hid (pre ++ O :: RR = Ls) := hide_ (by rw [← hO]; exact hpre.out)
      clear hpre
      obtain ⟨v1, v2, v3, LO⟩ := O
      have HO1 : LO = LL := HO1.out
      subst HO1
      have qd := hide_ qd
      have gpos : (0 : Int) < (l.length : Int) := by omega
      clear b2 hd hrn hO
      by_cases hk : m ≤ 100
      · have g100 : (m : Int) ≤ 100 := by omega
        go_wp2_with (first | (go_at_call 105; refine (qd.out).mono ?_; rintro e w3 ⟨⟨r, rfl, ho⟩, b3⟩; obtain ⟨ru, rc, er⟩ := ownr_form ho; rw [HRN.out] at er; subst er; have HA3 := hide_ (ownr_base ho KB.out.size); clear ho; have j3 : Below wr.heap.size wr ((w3.alloc (.cells #[.int .i64 v1, .int .i64 v2, .int .i64 v3, .slice ru rn rc] 87)).alloc (.cells #[.bool false, .int .i64 0, .int .i64 0] 44)) := b3.trans ((below2 w3 _ _).mono b3.size); have K3 := KB.out.trans (j3.mono KB.out.size); obtain ⟨o0, o1, o2, o3, -⟩ := ((AB.at0 w3 87 [.int .i64 v1, .int .i64 v2, .int .i64 v3, .slice ru rn rc]).alloc (.cells #[.bool false, .int .i64 0, .int .i64 0] 44)).k4; obtain ⟨f0, f1, f2, -⟩ := (AB.at1 w3 (.cells #[.int .i64 v1, .int .i64 v2, .int .i64 v3, .slice ru rn rc] 87) 44 [.bool false, .int .i64 0, .int .i64 0]).three) | (at_builtin; refine wpList_append_newG (.tmp 27) (.tmp 29) 48 rfl 87 i0 (.agg #[.int .i64 0, .int .i64 0, .int .i64 0, .slice none 0 0]) 4 48 Tryz.underlying48 HI.out.1 HI.out.2.1 HI.out.2.2.1 HI.out.2.2.2 rfl (by decide) (w.alloc (.cells #[.bool false, .int .i64 0, .int .i64 0] 44)).heap.size (.slice ua m uc) m (bds P) (by simp [Act.eval, Act.put]) ((w3.alloc (.cells #[.int .i64 v1, .int .i64 v2, .int .i64 v3, .slice ru rn rc] 87)).alloc (.cells #[.bool false, .int .i64 0, .int .i64 0] 44)) (by have := (HOw.out.later j3).1; rw [← HM.out] at this; exact this) [.int .i64 v1, .int .i64 v2, .int .i64 v3, .slice ru rn rc] _ rfl 1 (by simp) (by simp [Value.oneCell']) (by simp [Act.eval, Act.put]) (by simp [Region.wanted]) (by unfold maxLen; omega) (by omega) K3.size ?_; intro v4 w4 own4 b4 g4))
        have R4 : BRow w4 (w.alloc (.cells #[.bool false, .int .i64 0, .int .i64 0] 44)).heap.size v4 (P ++ [((v1, v2, v3, LO), .slice ru rn rc)]) := BRow.push (HOw.out.later j3) (by have := ownr_later HA3.out (below2 w3 (.cells #[.int .i64 v1, .int .i64 v2, .int .i64 v3, .slice ru rn rc] 87) (.cells #[.bool false, .int .i64 0, .int .i64 0] 44)); rw [← HRN.out] at this ⊢; exact this) (by rw [← HM.out]; exact own4) g4
        have hl4 : (P ++ [((v1, v2, v3, LO), Value.slice ru rn rc)]).length = m + 1 := by rw [List.length_append, ← HM.out]; rfl
        obtain ⟨ua4, uc4, e4⟩ := ownr_form R4.1
        rw [hl4] at e4
        subst e4
        have R4 := hide_ R4
        have HM4 := hide_ hl4.symm
        have HK2 := hide_ (show (P ++ [((v1, v2, v3, LO), Value.slice ru rn rc)]).map (·.1) = (pre ++ [(v1, v2, v3, LO)]).take 101 by rw [List.map_append]; exact take_snocK HK.out (by rw [List.length_map, ← HM.out]; exact hk))
        have b4 := hide_ b4
        clear hl4 own4 g4
        go_wp2
        go_roundw
        case rel => exact ⟨ao2, l.length - nn, cap - nn, ua4, uc4, m + 1, l.drop nn, pre ++ [(v1, v2, v3, LO)], P ++ [((v1, v2, v3, LO), .slice ru rn rc)], RR, rfl, rfl, by rw [List.length_drop], by omega, HM4, HB2, R4, hide_ ⟨hrest.out, by rw [← hpre2.out]; simp⟩, HK2, hide_ (K3.trans b4.out)⟩
        case measure => simp [slen2]; omega
      · have g100 : ¬ ((m : Int) ≤ 100) := by omega
        have HK2 := hide_ (take_skipK (o := (v1, v2, v3, LO)) HK.out (by rw [List.length_map, ← HM.out]; exact hk))
        go_wp2_with (go_at_call 105; refine (qd.out).mono ?_; rintro e w3 ⟨⟨r, rfl, ho⟩, b3⟩; obtain ⟨ru, rc, er⟩ := ownr_form ho; rw [HRN.out] at er; subst er; have HA3 := hide_ (ownr_base ho KB.out.size); clear ho; have j3 : Below wr.heap.size wr ((w3.alloc (.cells #[.int .i64 v1, .int .i64 v2, .int .i64 v3, .slice ru rn rc] 87)).alloc (.cells #[.bool false, .int .i64 0, .int .i64 0] 44)) := b3.trans ((below2 w3 _ _).mono b3.size); have K3 := KB.out.trans (j3.mono KB.out.size); obtain ⟨o0, o1, o2, o3, -⟩ := ((AB.at0 w3 87 [.int .i64 v1, .int .i64 v2, .int .i64 v3, .slice ru rn rc]).alloc (.cells #[.bool false, .int .i64 0, .int .i64 0] 44)).k4; obtain ⟨f0, f1, f2, -⟩ := (AB.at1 w3 (.cells #[.int .i64 v1, .int .i64 v2, .int .i64 v3, .slice ru rn rc] 87) 44 [.bool false, .int .i64 0, .int .i64 0]).three)
        go_roundw
        case rel => exact ⟨ao2, l.length - nn, cap - nn, ua, uc, m, l.drop nn, pre ++ [(v1, v2, v3, LO)], P, RR, rfl, rfl, by rw [List.length_drop], by omega, HM, HB2, hide_ (HOw.out.later j3), hide_ ⟨hrest.out, by rw [← hpre2.out]; simp⟩, HK2, hide_ K3⟩
        case measure => simp [slen2]; omega
end

section
open Go Go.RowKit
set_option linter.unusedVariables false
set_option linter.unusedSimpArgs false

end

section
open Go Go.RowKit
set_option linter.unusedVariables false
set_option linter.unusedSimpArgs false

set_option maxRecDepth 100000 in
set_option maxHeartbeats 8000000 in
theorem bd_bad (v : Value) (l0 : List Int) (c d : Int) (w : World) (hB : Bytes w v l0) (h6 : l0.length ≤ 60000) (hP : BBad Ans l0 c d) :
    Calls Tryz.prog 69 #[v] w fun e w' => (e = .returned (.tuple #[.slice none 0 0, .agg #[.bool true, .int .i64 c, .int .i64 d]])) ∧ Below w.heap.size w w' := by
  have F0 := hide_ (AB.at0 w 44 [.bool false, .int .i64 0, .int .i64 0])
  have B0 := hide_ (below1 w (.cells #[.bool false, .int .i64 0, .int .i64 0] 44))
  obtain ⟨ao0, cap0, rfl, hbr⟩ := hB
  have hB : Bytes w (.slice ao0 l0.length cap0) l0 := ⟨ao0, cap0, rfl, hbr⟩
  have HB0 := hide_ (hB.later B0.out)
  have g6 : ¬ (60000 : Int) < (l0.length : Int) := by omega
  clear hB hbr h6
  obtain ⟨i0, hi0, hz0, hz1, hz2⟩ := info_parts infoBu
  have HI : Hid (Tryz.prog.info? 87 = some i0 ∧ i0.zero = some (.agg #[.int .i64 0, .int .i64 0, .int .i64 0, .slice none 0 0]) ∧ i0.size = 4 ∧ i0.bytes = 48) := ⟨hi0, hz0, hz1, hz2⟩
  clear hi0 hz0 hz1 hz2
  have HP := hide_ hP
  clear hP
  go_enter Tryz.func69, Tryz.ntmps69
  go_wp2
  go_loopw [0, 4] (fun b u wr => ∃ (ao : Option Addr) (n cap : Nat) (ua : Option Addr) (uc m : Nat) (l : List Int) (pre : List BK) (P : List PB), b = .slice ao n cap ∧ u = .slice ua m uc ∧ n = l.length ∧ m ≤ 101 ∧ Hid (m = P.length) ∧ Hid (Bytes (w.alloc (.cells #[.bool false, .int .i64 0, .int .i64 0] 44)) (.slice ao n cap) l) ∧ Hid (BRow wr (w.alloc (.cells #[.bool false, .int .i64 0, .int .i64 0] 44)).heap.size (.slice ua m uc) P) ∧ Hid (BBad Ans l c d) ∧ Hid (P.map (·.1) = pre.take 101) ∧ Hid (Below (w.alloc (.cells #[.bool false, .int .i64 0, .int .i64 0] 44)).heap.size (w.alloc (.cells #[.bool false, .int .i64 0, .int .i64 0] 44)) wr)) (fun b _ _ => slen2 b)
  case atStart => exact ⟨ao0, l0.length, cap0, none, 0, 0, l0, [], [], rfl, rfl, rfl, by simp, hide_ rfl, HB0, hide_ (BRow.nil _ _), HP, hide_ rfl, hide_ (Below.refl _ _)⟩
  case round =>
    obtain ⟨ao, n, cap, ua, uc, m, l, pre, P, rfl, rfl, rfl, hKl, HM, HBy, HOw, HPP, HK, KB⟩ := hrel
    have hpo := HPP.out
    clear HPP
    cases hpo with
    | here hd =>
      have qd := bread_here ao cap l c d wr (HBy.out.later KB.out) hd
      have h0 := hd.1
      have qd := hide_ qd
      clear hd
      have gpos : (0 : Int) < (l.length : Int) := by omega
      go_upto_region 7 with (first | (go_at_call 105; refine (qd.out).mono ?_; rintro e w3 ⟨rfl, b3⟩; have j3 : Below wr.heap.size wr ((w3.alloc (.cells #[.int .i64 0, .int .i64 0, .int .i64 0, .slice none 0 0] 87)).alloc (.cells #[.bool true, .int .i64 c, .int .i64 d] 44)) := b3.trans ((below2 w3 _ _).mono b3.size); have K3 := KB.out.trans (j3.mono KB.out.size); obtain ⟨o0, o1, o2, o3, -⟩ := ((AB.at0 w3 87 [.int .i64 0, .int .i64 0, .int .i64 0, .slice none 0 0]).alloc (.cells #[.bool true, .int .i64 c, .int .i64 d] 44)).k4; obtain ⟨f0, f1, f2, -⟩ := (AB.at1 w3 (.cells #[.int .i64 0, .int .i64 0, .int .i64 0, .slice none 0 0] 87) 44 [.bool true, .int .i64 c, .int .i64 d]).three))
      have BX := B0.out.trans (K3.mono B0.out.size)
      have hgw : w.heap.size < w3.heap.size := Nat.lt_of_lt_of_le (Nat.lt_of_lt_of_le (by simp) KB.out.size) b3.size
      have FD := F0.out.later K3
      generalize ((w3.alloc (.cells #[.int .i64 0, .int .i64 0, .int .i64 0, .slice none 0 0] 87)).alloc (.cells #[.bool true, .int .i64 c, .int .i64 d] 44)) = X at *
      have FD : AB X.drew w.heap.size 44 [.bool false, .int .i64 0, .int .i64 0] := FD
      obtain ⟨s0, s1, s2, s3, s4, s5⟩ := FD.three
      obtain ⟨u0, u1, u2, -⟩ := (FD.set3 (.bool true) (.int .i64 c) (.int .i64 d)).three
      clear FD
      refine wp_region_held_drew (S := (fun w' => w'.cell? ⟨w3.heap.size + 1, 0, none⟩ = some (.bool true) ∧ w'.cell? ⟨w3.heap.size + 1, 1, none⟩ = some (.int .i64 c) ∧ w'.cell? ⟨w3.heap.size + 1, 2, none⟩ = some (.int .i64 d) ∧ Below w.heap.size w w')) (by kernel_rfl) (⟨f0, f1, f2, BX.drew⟩) (fun hHeld => ?_)
      generalize X.drew = D at *
      refine takeR (i := 0) (v := ?_) rfl (by kernel_rfl) (by kernel_rfl) (by kernel_rfl) (some 23) rfl (Or.inl ⟨by rfl, ?_⟩) (fun _ _ _ h => h) (by assumption) ?_
      rotate_left
      · intro w hSw; (try dsimp only at hSw); go_simp; (try with_reducible rfl)
      simp only [Act.put, List.setIfInBounds_toArray, List.set_cons_zero, List.set_cons_succ]
      refine takeR (i := 1) (v := ?_) rfl (by kernel_rfl) (by kernel_rfl) (by kernel_rfl) (some 2) rfl (Or.inl ⟨by rfl, ?_⟩) (fun _ _ _ h => h) (by assumption) ?_
      rotate_left
      · intro w hSw; (try dsimp only at hSw); go_simp; (try with_reducible rfl)
      simp only [Act.put, List.setIfInBounds_toArray, List.set_cons_zero, List.set_cons_succ]
      refine wpAnyH_ready (rs := [2]) (by kernel_rfl) (by simp) ?_
      refine AllReadyH.cons rfl (fun K hK => ?_) (AllReadyH.nil)
      go_simp
      refine hK.out _ _ (kW3_3 hHeld (by omega) (by dsimp only; omega) (by dsimp only; omega) (by dsimp only; omega)) (fun hHeld => ?_)
      clear hK K
      try simp only [Act.put, List.setIfInBounds_toArray, List.set_cons_zero, List.set_cons_succ]
      refine wpAnyH_done (by kernel_rfl) ?_ _
      go_wp2_with fail
      exact bodyPost_ret (v := .tuple #[.slice none 0 0, .agg #[.bool true, .int .i64 c, .int .i64 d]]) (by simp [results, Tryz.results69, go_sem, u0, u1, u2]) rfl ⟨rfl, hHeld.2.2.2⟩
    | @cons _ nn LL _ _ hd hrest =>
      have hle : nn ≤ l.length := by have := hd.1; have h2 := hd.2.1; unfold cutOk at this; omega
      have h0 : 16 ≤ nn := by have := hd.1; have h2 := hd.2.1; unfold cutOk at this; omega
      have qd := bread_step ao cap l nn LL wr (HBy.out.later KB.out) hd
      obtain ⟨rn, hrn⟩ : ∃ rn, LL.length = rn := ⟨_, rfl⟩
      have HRN := hide_ hrn
      have HO1 : Hid ((bkOf l nn LL).2.2.2 = LL) := hide_ rfl
      obtain ⟨ao2, -, s2, b2⟩ := bytes_slice HBy.out nn hle
      have HB2 := hide_ b2
      have hrest := hide_ hrest
      obtain ⟨O, hO⟩ : ∃ O, bkOf l nn LL = O := ⟨_, rfl⟩
      rw [hO] at qd HO1
      obtain ⟨v1, v2, v3, LO⟩ := O
      have HO1 : LO = LL := HO1.out
      subst HO1
      have qd := hide_ qd
      have gpos : (0 : Int) < (l.length : Int) := by omega
      clear b2 hd hrn hO
      by_cases hk : m ≤ 100
      · have g100 : (m : Int) ≤ 100 := by omega
        go_wp2_with (first | (go_at_call 105; refine (qd.out).mono ?_; rintro e w3 ⟨⟨r, rfl, ho⟩, b3⟩; obtain ⟨ru, rc, er⟩ := ownr_form ho; rw [HRN.out] at er; subst er; have HA3 := hide_ (ownr_base ho KB.out.size); clear ho; have j3 : Below wr.heap.size wr ((w3.alloc (.cells #[.int .i64 v1, .int .i64 v2, .int .i64 v3, .slice ru rn rc] 87)).alloc (.cells #[.bool false, .int .i64 0, .int .i64 0] 44)) := b3.trans ((below2 w3 _ _).mono b3.size); have K3 := KB.out.trans (j3.mono KB.out.size); obtain ⟨o0, o1, o2, o3, -⟩ := ((AB.at0 w3 87 [.int .i64 v1, .int .i64 v2, .int .i64 v3, .slice ru rn rc]).alloc (.cells #[.bool false, .int .i64 0, .int .i64 0] 44)).k4; obtain ⟨f0, f1, f2, -⟩ := (AB.at1 w3 (.cells #[.int .i64 v1, .int .i64 v2, .int .i64 v3, .slice ru rn rc] 87) 44 [.bool false, .int .i64 0, .int .i64 0]).three) | (at_builtin; refine wpList_append_newG (.tmp 27) (.tmp 29) 48 rfl 87 i0 (.agg #[.int .i64 0, .int .i64 0, .int .i64 0, .slice none 0 0]) 4 48 Tryz.underlying48 HI.out.1 HI.out.2.1 HI.out.2.2.1 HI.out.2.2.2 rfl (by decide) (w.alloc (.cells #[.bool false, .int .i64 0, .int .i64 0] 44)).heap.size (.slice ua m uc) m (bds P) (by simp [Act.eval, Act.put]) ((w3.alloc (.cells #[.int .i64 v1, .int .i64 v2, .int .i64 v3, .slice ru rn rc] 87)).alloc (.cells #[.bool false, .int .i64 0, .int .i64 0] 44)) (by have := (HOw.out.later j3).1; rw [← HM.out] at this; exact this) [.int .i64 v1, .int .i64 v2, .int .i64 v3, .slice ru rn rc] _ rfl 1 (by simp) (by simp [Value.oneCell']) (by simp [Act.eval, Act.put]) (by simp [Region.wanted]) (by unfold maxLen; omega) (by omega) K3.size ?_; intro v4 w4 own4 b4 g4))
        have R4 : BRow w4 (w.alloc (.cells #[.bool false, .int .i64 0, .int .i64 0] 44)).heap.size v4 (P ++ [((v1, v2, v3, LO), .slice ru rn rc)]) := BRow.push (HOw.out.later j3) (by have := ownr_later HA3.out (below2 w3 (.cells #[.int .i64 v1, .int .i64 v2, .int .i64 v3, .slice ru rn rc] 87) (.cells #[.bool false, .int .i64 0, .int .i64 0] 44)); rw [← HRN.out] at this ⊢; exact this) (by rw [← HM.out]; exact own4) g4
        have hl4 : (P ++ [((v1, v2, v3, LO), Value.slice ru rn rc)]).length = m + 1 := by rw [List.length_append, ← HM.out]; rfl
        obtain ⟨ua4, uc4, e4⟩ := ownr_form R4.1
        rw [hl4] at e4
        subst e4
        have R4 := hide_ R4
        have HM4 := hide_ hl4.symm
        have HK2 := hide_ (show (P ++ [((v1, v2, v3, LO), Value.slice ru rn rc)]).map (·.1) = (pre ++ [(v1, v2, v3, LO)]).take 101 by rw [List.map_append]; exact take_snocK HK.out (by rw [List.length_map, ← HM.out]; exact hk))
        have b4 := hide_ b4
        clear hl4 own4 g4
        go_wp2
        go_roundw
        case rel => exact ⟨ao2, l.length - nn, cap - nn, ua4, uc4, m + 1, l.drop nn, pre ++ [(v1, v2, v3, LO)], P ++ [((v1, v2, v3, LO), .slice ru rn rc)], rfl, rfl, by rw [List.length_drop], by omega, HM4, HB2, R4, hrest, HK2, hide_ (K3.trans b4.out)⟩
        case measure => simp [slen2]; omega
      · have g100 : ¬ ((m : Int) ≤ 100) := by omega
        have HK2 := hide_ (take_skipK (o := (v1, v2, v3, LO)) HK.out (by rw [List.length_map, ← HM.out]; exact hk))
        go_wp2_with (go_at_call 105; refine (qd.out).mono ?_; rintro e w3 ⟨⟨r, rfl, ho⟩, b3⟩; obtain ⟨ru, rc, er⟩ := ownr_form ho; rw [HRN.out] at er; subst er; have HA3 := hide_ (ownr_base ho KB.out.size); clear ho; have j3 : Below wr.heap.size wr ((w3.alloc (.cells #[.int .i64 v1, .int .i64 v2, .int .i64 v3, .slice ru rn rc] 87)).alloc (.cells #[.bool false, .int .i64 0, .int .i64 0] 44)) := b3.trans ((below2 w3 _ _).mono b3.size); have K3 := KB.out.trans (j3.mono KB.out.size); obtain ⟨o0, o1, o2, o3, -⟩ := ((AB.at0 w3 87 [.int .i64 v1, .int .i64 v2, .int .i64 v3, .slice ru rn rc]).alloc (.cells #[.bool false, .int .i64 0, .int .i64 0] 44)).k4; obtain ⟨f0, f1, f2, -⟩ := (AB.at1 w3 (.cells #[.int .i64 v1, .int .i64 v2, .int .i64 v3, .slice ru rn rc] 87) 44 [.bool false, .int .i64 0, .int .i64 0]).three)
        go_roundw
        case rel => exact ⟨ao2, l.length - nn, cap - nn, ua, uc, m, l.drop nn, pre ++ [(v1, v2, v3, LO)], P, rfl, rfl, by rw [List.length_drop], by omega, HM, HB2, hide_ (HOw.out.later j3), hrest, HK2, hide_ K3⟩
        case measure => simp [slen2]; omega
end

section
open Go Go.RowKit
set_option linter.unusedVariables false
set_option linter.unusedSimpArgs false

theorem encA_mod8 : ∀ (L : List A11), AFit L → L.all artO = true → (encA L).length % 8 = 0
  | [], _, _ => rfl
  | (k, p, x, q, y, f, m, a, b, c, d) :: r, hF, hr => by
    have hr' : art k p x q y f m a b c d = true ∧ r.all artO = true := by
      rw [List.all_cons, Bool.and_eq_true] at hr
      exact hr
    obtain ⟨g1, g2, g3, g4⟩ := hF k p x q y f m a b c d (by simp)
    have h8 := (aenc_len g1 g2 g3 g4 hr'.1).2.1
    have ih := encA_mod8 r hF.tail hr'.2
    have e : encA ((k, p, x, q, y, f, m, a, b, c, d) :: r) = aencL k p x q y f m a b c d ++ encA r := by simp [encA, aencO]
    rw [e, List.length_append]
    omega
theorem rightB_2 {n : Int} (h : rightB n 2 = true) : 0 ≤ n ∧ n < 65536 := by
  simpa [rightB, szB, lim] using h
theorem rightB_4 {n : Int} (h : rightB n 4 = true) : 0 ≤ n ∧ n < 4294967296 := by
  simpa [rightB, szB, lim] using h
theorem spl2_eq (n : Int) : spl n 2 = [n / 256 % 256, n % 256] := by simp [spl]
theorem spl4_eq (n : Int) : spl n 4 = [n / 16777216, n / 65536 % 256, n / 256 % 256, n % 256] := by simp [spl]
theorem bkE_form (a b c : Int) (L : List A11) : bkE (a, b, c, L) = ((16 + (encA L).length : Nat) : Int) / 256 % 256 :: ((16 + (encA L).length : Nat) : Int) % 256 :: a / 256 % 256 :: a % 256 :: b / 16777216 :: b / 65536 % 256 :: b / 256 % 256 :: b % 256 :: c / 16777216 :: c / 65536 % 256 :: c / 256 % 256 :: c % 256 :: 0 :: 0 :: 0 :: 0 :: encA L := by
  unfold bkE
  rw [spl2_eq, spl2_eq, spl4_eq, spl4_eq]
  rfl
theorem be2_at0 (x y : Int) (r : List Int) : be2 (x :: y :: r) 0 = x * 256 + y := by simp [be2]
theorem be2_at2 (x0 x1 x2 x3 : Int) (r : List Int) : be2 (x0 :: x1 :: x2 :: x3 :: r) 2 = x2 * 256 + x3 := by simp [be2]
theorem be4_at4 (x0 x1 x2 x3 x4 x5 x6 x7 : Int) (r : List Int) : be4 (x0 :: x1 :: x2 :: x3 :: x4 :: x5 :: x6 :: x7 :: r) 4 = ((x4 * 256 + x5) * 256 + x6) * 256 + x7 := by simp [be4]
theorem be4_at8 (x0 x1 x2 x3 x4 x5 x6 x7 x8 x9 y0 y1 : Int) (r : List Int) : be4 (x0 :: x1 :: x2 :: x3 :: x4 :: x5 :: x6 :: x7 :: x8 :: x9 :: y0 :: y1 :: r) 8 = ((x8 * 256 + x9) * 256 + y0) * 256 + y1 := by simp [be4]
theorem step_enc {a b c : Int} {L : List A11} (X : List Int) (hF : AFit L) (h : bkR (a, b, c, L) = true) : KStep Ans (bkE (a, b, c, L) ++ X) (16 + (encA L).length) L ∧ bkOf (bkE (a, b, c, L) ++ X) (16 + (encA L).length) L = (a, b, c, L) := by
  obtain ⟨h1, h2, h3, h4, h5⟩ := bkR_parts h
  have r1 := rightB_2 h3
  have r2 := rightB_4 h4
  have r3 := rightB_4 h5
  simp only at r1 r2 r3 h1 h2
  have hl := encA_6000 hF h1 h2
  have hm := encA_mod8 L hF h2
  have hbl := bkE_len (a, b, c, L)
  simp only at hbl
  have ht : (bkE (a, b, c, L) ++ X).take (16 + (encA L).length) = bkE (a, b, c, L) := by rw [← hbl, List.take_left]
  have hN : be2 (bkE (a, b, c, L) ++ X) 0 = ((16 + (encA L).length : Nat) : Int) := by
    rw [bkE_form, List.cons_append, List.cons_append, be2_at0]
    omega
  have hd : (bkE (a, b, c, L)).drop 16 = encA L := by rw [bkE_form]; rfl
  refine ⟨⟨⟨by rw [List.length_append, hbl]; omega, by rw [hN]; omega, by rw [hN]; omega, by rw [hN, List.length_append, hbl]; omega⟩, hN, ?_, ?_, h1⟩, ?_⟩
  · rw [ht, bkE_form]
    rfl
  · rw [ht, hd]
    exact aok_enc L hF h2
  · unfold bkOf
    rw [ht, bkE_form]
    rw [be2_at2, be4_at4, be4_at8]
    have e1 : a / 256 % 256 * 256 + a % 256 = a := by omega
    have e2 : ((b / 16777216 * 256 + b / 65536 % 256) * 256 + b / 256 % 256) * 256 + b % 256 = b := by omega
    have e3 : ((c / 16777216 * 256 + c / 65536 % 256) * 256 + c / 256 % 256) * 256 + c % 256 = c := by omega
    rw [e1, e2, e3]
theorem bok_enc : ∀ Ls : List BK, BFit Ls → Ls.all bkR = true → BOk Ans (encK Ls) Ls
  | [], _, _ => .nil
  | (a, b, c, L) :: r, hF, hr => by
    rw [List.all_cons, Bool.and_eq_true] at hr
    obtain ⟨h1, h2⟩ := step_enc (encK r) (hF (a, b, c, L) (by simp)) hr.1
    have ih := bok_enc r (fun x hx => hF x (by simp [hx])) hr.2
    have e : encK ((a, b, c, L) :: r) = bkE (a, b, c, L) ++ encK r := rfl
    rw [e]
    have hbl := bkE_len (a, b, c, L)
    simp only at hbl
    have := BOk.cons h1 (by rw [← hbl, List.drop_left]; exact ih)
    rw [h2] at this
    exact this
end

section
open Go Go.RowKit
set_option linter.unusedVariables false
set_option linter.unusedSimpArgs false

end

section
open Go Go.RowKit
set_option linter.unusedVariables false
set_option linter.unusedSimpArgs false

def a15 : A11 := (0, 3, 0, 0, 0, 0, false, 0, 0, 0, 0)
set_option maxRecDepth 100000 in
set_option maxHeartbeats 8000000 in
end

end Go.Proofs.YthhijfphfcmniaaGreat

