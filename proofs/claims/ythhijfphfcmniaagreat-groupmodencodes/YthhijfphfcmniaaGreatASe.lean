import Derived.Test.YthhijfphfcmniaaGreatAh
import Derived.Test.YthhijfphfcmniaaGreatJPe
import Derived.Test.YthhijfphfcmniaaGreatAb
import Derived.Test.YthhijfphfcmniaaGreatAe
import Derived.Test.YthhijfphfcmniaaGreatAk
import Derived.Test.YthhijfphfcmniaaGreatOy
import Derived.Test.YthhijfphfcmniaaGreatXi
import Derived.Test.YthhijfphfcmniaaGreatJA
import Derived.Deep.RegionHeld3
import Derived.Deep.RegionWith
import Derived.Deep.MidRow
import Derived.Deep.Cut
namespace Go.Proofs.YthhijfphfcmniaaGreat
open Go Go.RowKit
set_option linter.unusedVariables false
set_option linter.unusedSimpArgs false

end Go.Proofs.YthhijfphfcmniaaGreat

namespace Go.Proofs.YthhijfphfcmniaaGreat
open Go Go.RowKit
set_option linter.unusedVariables false
set_option linter.unusedSimpArgs false

end Go.Proofs.YthhijfphfcmniaaGreat

namespace Go.Proofs.YthhijfphfcmniaaGreat
section
open Go Go.RowKit
set_option linter.unusedVariables false
set_option linter.unusedSimpArgs false

def badV (c : Int) : Value := .tuple #[.agg #[.int .i64 0, .int .i64 0, .int .i64 0, .int .i64 0, .int .i64 0, .int .i64 0, .bool false, .int .u64 0, .int .u64 0, .int .u64 0, .int .u64 0], .int .i64 0, .agg #[.bool true, .int .i64 2, .int .i64 c]]
def okV (k p x q y f : Int) (m : Bool) (a b c d : Nat) (n : Nat) : Value := .tuple #[.agg #[.int .i64 k, .int .i64 p, .int .i64 x, .int .i64 q, .int .i64 y, .int .i64 f, .bool m, .int .u64 (a : Int), .int .u64 (b : Int), .int .u64 (c : Int), .int .u64 (d : Int)], .int .i64 (n : Int), .agg #[.bool false, .int .i64 0, .int .i64 0]]
/-- both answer so, at whatever world -/
def Ans (l : List Int) (r : Value) : Prop := ∀ v w, Bytes w v l → (Calls Tryz.prog 124 #[v] w fun e w' => e = .returned r ∧ Below w.heap.size w w')
def Reads (l : List Int) (N : Nat) (r : Value) : Prop := ∀ ao cap w, Bytes w (.slice ao N cap) l → Calls Tryz.prog 143 #[.slice ao N cap] w fun e w' => e = .returned r ∧ Below w.heap.size w w'
theorem rlen_ok {l : List Int} {N : Nat} (hN : be2 l 2 = (N : Int)) (h8 : 8 ≤ N) (hm : N % 8 = 0) (hle : N ≤ l.length) (ao : Option Addr) (cap : Nat) (W : World) (hB : Bytes W (.slice ao l.length cap) l) :
    Calls Tryz.prog 142 #[.slice ao l.length cap] W fun e w' => e = .returned (.tuple #[.int .i64 (N : Int), .agg #[.bool false, .int .i64 0, .int .i64 0]]) ∧ Below W.heap.size W w' := by
  have := rlen_e ao cap l W hB (by omega) (by omega) (by omega) (by omega)
  rw [hN] at this
  exact this
theorem P_gen {l : List Int} {N u : Nat} (k p x q y f : Int) (m : Bool) (a b c d : Nat) (hN : be2 l 2 = (N : Int)) (h8 : 8 ≤ N) (hm : N % 8 = 0) (hle : N ≤ l.length) (hu : u ≤ N) (hr : Reads (l.take N) N (okV k p x q y f m a b c d u)) :
    Ans l (if nzB ((l.take N).drop u) = true then badV 5 else match achk k p x q y f m with | some c => badV c | none => okV k p x q y f m a b c d N) := by
  intro v w hB
  obtain ⟨ao, cap, rfl, h1⟩ := hB
  have hB : Bytes w (.slice ao l.length cap) l := ⟨ao, cap, rfl, h1⟩
  obtain ⟨-, s1, b1⟩ := bytes_take hB N hle
  obtain ⟨ao2, s2, b2⟩ := bytes_mid hB u N hu hle
  have qL := fun W hW => rlen_ok hN h8 hm hle ao cap W (hB.later (w' := W) hW)
  have qR := fun W hW => hr ao cap W (b1.later (w' := W) hW)
  have qC := fun W hW => cont_any _ _ W (b2.later (w' := W) hW)
  have qK := fun w => achk_any k p x q y f m a b c d w
  cases hz : nzB ((l.take N).drop u)
  · rw [hz] at qC
    cases hc : achk k p x q y f m with
    | none =>
      rw [hc] at qK
      exact dec_ok _ _ _ N u k p x q y f m a b c d w qL s1 qR s2 qC qK
    | some c1 =>
      rw [hc] at qK
      exact dec_chk _ _ _ N u k p x q y f m a b c d 2 c1 w qL s1 qR s2 qC qK
  · rw [hz] at qC
    exact dec_nz _ _ _ N u k p x q y f m a b c d w qL s1 qR s2 qC
end

section
open Go Go.RowKit
set_option linter.unusedVariables false
set_option linter.unusedSimpArgs false

end

section
open Go Go.RowKit
set_option linter.unusedVariables false
set_option linter.unusedSimpArgs false

theorem Ans.of {l : List Int} {r r' : Value} (h : Ans l r) (e : r = r') : Ans l r' := e ▸ h
end

section
open Go Go.RowKit
set_option linter.unusedVariables false
set_option linter.unusedSimpArgs false

end

section
open Go Go.RowKit
set_option linter.unusedVariables false
set_option linter.unusedSimpArgs false

theorem fsize_ge2 (f : Int) (h : fok f = true) : 1 ≤ fsize f := by
  unfold fok at h
  simp only [Bool.and_eq_true, decide_eq_true_eq] at h
  have := fsize_pos ⟨f.toNat, by omega⟩
  have e : ((f.toNat : Nat) : Int) = f := by omega
  rw [e] at this
  exact this
theorem art_none {k p x q y f : Int} {m : Bool} {a b c d : Nat} (h : art k p x q y f m a b c d = true) : achk k p x q y f m = none := by
  unfold art at h
  cases hc : achk k p x q y f m with
  | none => rfl
  | some z => simp [hc] at h
theorem art_ownE {k p x q y f : Int} {m : Bool} {a b c d : Nat} (h : art k p x q y f m a b c d = true) : ownE k p x q y f m a b c d = true := by
  unfold art at h
  cases ho : ownE k p x q y f m a b c d
  · simp [ho] at h
  · rfl
theorem gen_ok {l : List Int} {N u : Nat} (k p x q y f : Int) (m : Bool) (a b c d : Nat) (h : art k p x q y f m a b c d = true) (hN : be2 l 2 = (N : Int)) (h8 : 8 ≤ N) (hm : N % 8 = 0) (hle : N ≤ l.length) (hu : u ≤ N) (hr : Reads (l.take N) N (okV k p x q y f m a b c d u)) (hz : nzB ((l.take N).drop u) = false) : Ans l (okV k p x q y f m a b c d N) :=
  (P_gen k p x q y f m a b c d hN h8 hm hle hu hr).of (by rw [if_neg (by rw [hz]; decide), art_none h])
theorem enc_d0 {p x q y f : Int} {m : Bool} {a b c d : Nat} (X : List Int) (h : art 0 p x q y f m a b c d = true) : Ans (aencL 0 p x q y f m a b c d ++ X) (okV 0 p x q y f m a b c d 16) ∧ (aencL 0 p x q y f m a b c d).length = 16 := by
  have ho := art_ownE h
  simp [ownE, oz] at ho
  obtain ⟨rfl, rfl, rfl, rfl, rfl, rfl, rfl, rfl⟩ := ho
  obtain ⟨h1, h2, h3, h4⟩ := art_0 h
  have e : aencL 0 p x 0 0 0 false 0 0 0 0 = [0, 0, 0, 16, p / 16777216, p / 65536 % 256, p / 256 % 256, p % 256, x / 256 % 256, x % 256, 0, 0, 0, 0, 0, 0] := by simp [aencL, bodyL, spl, r8, List.replicate]
  refine ⟨?_, by rw [e]; rfl⟩
  rw [e]
  refine gen_ok 0 p x 0 0 0 false 0 0 0 0 h (N := 16) (u := 10) (by simp [be2]) (by omega) (by omega) (by simp) (by omega) (fun ao cap w hB => ?_) (by simp [nzB])
  have := read_0 ao cap _ w hB (by simp [be2])
  have e1 : be4 (([0, 0, 0, 16, p / 16777216, p / 65536 % 256, p / 256 % 256, p % 256, x / 256 % 256, x % 256, 0, 0, 0, 0, 0, 0] ++ X).take 16) 4 = p := by simp [be4]; omega
  have e2 : be2 (([0, 0, 0, 16, p / 16777216, p / 65536 % 256, p / 256 % 256, p % 256, x / 256 % 256, x % 256, 0, 0, 0, 0, 0, 0] ++ X).take 16) 8 = x := by simp [be2]; omega
  rw [e1, e2] at this
  exact this
theorem enc_d22 {p x q y f : Int} {m : Bool} {a b c d : Nat} (X : List Int) (h : art 22 p x q y f m a b c d = true) : Ans (aencL 22 p x q y f m a b c d ++ X) (okV 22 p x q y f m a b c d 8) ∧ (aencL 22 p x q y f m a b c d).length = 8 := by
  have ho := art_ownE h
  simp [ownE, oz] at ho
  obtain ⟨rfl, rfl, rfl, rfl, rfl, rfl, rfl, rfl, rfl⟩ := ho
  obtain ⟨h1, h2⟩ := art_22 h
  have e : aencL 22 0 0 q 0 0 false 0 0 0 0 = [0, 22, 0, 8, q / 16777216, q / 65536 % 256, q / 256 % 256, q % 256] := by simp [aencL, bodyL, spl, r8]
  refine ⟨?_, by rw [e]; rfl⟩
  rw [e]
  refine gen_ok 22 0 0 q 0 0 false 0 0 0 0 h (N := 8) (u := 8) (by simp [be2]) (by omega) (by omega) (by simp) (by omega) (fun ao cap w hB => ?_) (by simp [nzB])
  have := read_22 ao cap _ w hB (by simp [be2])
  have e1 : be4 (([0, 22, 0, 8, q / 16777216, q / 65536 % 256, q / 256 % 256, q % 256] ++ X).take 8) 4 = q := by simp [be4]; omega
  rw [e1] at this
  exact this
theorem enc_d17 {p x q y f : Int} {m : Bool} {a b c d : Nat} (X : List Int) (h : art 17 p x q y f m a b c d = true) : Ans (aencL 17 p x q y f m a b c d ++ X) (okV 17 p x q y f m a b c d 8) ∧ (aencL 17 p x q y f m a b c d).length = 8 := by
  have ho := art_ownE h
  simp [ownE, oz] at ho
  obtain ⟨rfl, rfl, rfl, rfl, rfl, rfl, rfl, rfl, rfl⟩ := ho
  have h1 := art_17 h
  have e : aencL 17 0 0 0 y 0 false 0 0 0 0 = [0, 17, 0, 8, y / 256 % 256, y % 256, 0, 0] := by simp [aencL, bodyL, spl, r8, List.replicate]
  refine ⟨?_, by rw [e]; rfl⟩
  rw [e]
  refine gen_ok 17 0 0 0 y 0 false 0 0 0 0 h (N := 8) (u := 6) (by simp [be2]) (by omega) (by omega) (by simp) (by omega) (fun ao cap w hB => ?_) (by simp [nzB])
  have := read_17 ao cap _ w hB (by simp [be2])
  have e1 : be2 (([0, 17, 0, 8, y / 256 % 256, y % 256, 0, 0] ++ X).take 8) 4 = y := by simp [be2]; omega
  rw [e1] at this
  exact this
theorem enc_d18 {p x q y f : Int} {m : Bool} {a b c d : Nat} (X : List Int) (h : art 18 p x q y f m a b c d = true) : Ans (aencL 18 p x q y f m a b c d ++ X) (okV 18 p x q y f m a b c d 8) ∧ (aencL 18 p x q y f m a b c d).length = 8 := by
  have ho := art_ownE h
  simp [ownE, oz] at ho
  obtain ⟨rfl, rfl, rfl, rfl, rfl, rfl, rfl, rfl, rfl, rfl⟩ := ho
  have e : aencL 18 0 0 0 0 0 false 0 0 0 0 = [0, 18, 0, 8, 0, 0, 0, 0] := by simp [aencL, bodyL, spl, r8, List.replicate]
  refine ⟨?_, by rw [e]; rfl⟩
  rw [e]
  exact gen_ok 18 0 0 0 0 0 false 0 0 0 0 h (N := 8) (u := 4) (by simp [be2]) (by omega) (by omega) (by simp) (by omega) (fun ao cap w hB => read_18 ao cap _ w hB (by simp [be2])) (by simp [nzB])
theorem enc_d25 {p x q y f : Int} {m : Bool} {a b c d : Nat} (X : List Int) (ha : a < 18446744073709551616) (hb : b < 18446744073709551616) (hc : c < 18446744073709551616) (hd : d < 18446744073709551616) (h : art 25 p x q y f m a b c d = true) : ∃ N, Ans (aencL 25 p x q y f m a b c d ++ X) (okV 25 p x q y f m a b c d N) ∧ (aencL 25 p x q y f m a b c d).length = N ∧ N % 8 = 0 ∧ N ≤ 60 := by
  obtain ⟨hr, rfl, hs, rfl, rfl, rfl, rfl⟩ := art_25 h
  obtain ⟨nn, hnn⟩ : ∃ nn, (encL f false a b c d).length = nn := ⟨_, rfl⟩
  have hle := encL_le f false a b c d
  obtain ⟨N, hN⟩ : ∃ N, r8 (4 + nn) = N := ⟨_, rfl⟩
  have hN1 := r8_ge (4 + nn)
  have hN2 := r8_le (4 + nn)
  have hN3 : N % 8 = 0 := by rw [← hN]; unfold r8; omega
  have e : aencL 25 0 0 0 0 f false a b c d = [0, 25, (N : Int) / 256 % 256, (N : Int) % 256] ++ (encL f false a b c d ++ List.replicate (N - (4 + nn)) 0) := by
    unfold aencL bodyL
    simp only [hnn, hN, if_neg (by decide : ¬ (25 : Int) = 0), if_neg (by decide : ¬ (25 : Int) = 22), if_neg (by decide : ¬ (25 : Int) = 17), if_true]
    simp [spl]
  have hlen : (aencL 25 0 0 0 0 f false a b c d).length = N := by rw [e]; simp [hnn]; omega
  have hel : 4 < (encL f false a b c d).length := by
    have := fsize_ge2 f (rgt_fok hr)
    have h1 := fsize_le f
    have h2 : cl (fsize f : Int) 16 = fsize f := by unfold cl; omega
    simp only [encL, List.append_nil, List.length_append, spl_len2, spl_len1, wtail_length, h2]; omega
  refine ⟨N, ?_, hlen, hN3, by omega⟩
  have htk : (aencL 25 0 0 0 0 f false a b c d ++ X).take N = aencL 25 0 0 0 0 f false a b c d := by rw [← hlen]; exact List.take_left
  have hd4 : (aencL 25 0 0 0 0 f false a b c d).drop 4 = encL f false a b c d ++ List.replicate (N - (4 + nn)) 0 := by rw [e]; rfl
  have hdu : (aencL 25 0 0 0 0 f false a b c d).drop (4 + nn) = List.replicate (N - (4 + nn)) 0 := by
    rw [← List.drop_drop, hd4, ← hnn]; exact List.drop_left
  refine gen_ok 25 0 0 0 0 f false a b c d h (N := N) (u := 4 + nn) ?_ (by omega) hN3 (by rw [List.length_append, hlen]; omega) (by omega) (fun ao cap w hB => ?_) ?_
  · rw [e]; simp [be2]; omega
  · rw [htk] at hB
    refine read_25 ao N cap _ f false a b c d nn (4 + nn) w hB ?_ (by rw [hlen]; omega) ?_ (by omega) rfl hN.symm
    · rw [e]; simp [be2]
    · rw [hd4, dec_enc _ ha hb hc hd hr, hnn]
  · rw [htk, hdu]; simp [nzB]
theorem adec_enc {k p x q y f : Int} {m : Bool} {a b c d : Nat} (X : List Int) (ha : a < 18446744073709551616) (hb : b < 18446744073709551616) (hc : c < 18446744073709551616) (hd : d < 18446744073709551616) (h : art k p x q y f m a b c d = true) : ∃ N, Ans (aencL k p x q y f m a b c d ++ X) (okV k p x q y f m a b c d N) ∧ (aencL k p x q y f m a b c d).length = N ∧ N % 8 = 0 ∧ N ≤ 60 := by
  rcases art_kind h with rfl | rfl | rfl | rfl | rfl
  · exact ⟨16, (enc_d0 X h).1, (enc_d0 X h).2, by omega, by omega⟩
  · exact ⟨8, (enc_d22 X h).1, (enc_d22 X h).2, by omega, by omega⟩
  · exact ⟨8, (enc_d17 X h).1, (enc_d17 X h).2, by omega, by omega⟩
  · exact ⟨8, (enc_d18 X h).1, (enc_d18 X h).2, by omega, by omega⟩
  · exact enc_d25 X ha hb hc hd h
end

section
open Go Go.RowKit
set_option linter.unusedVariables false
set_option linter.unusedSimpArgs false

end

end Go.Proofs.YthhijfphfcmniaaGreat

namespace Go.Proofs.YthhijfphfcmniaaGreat
section
open Go Go.RowKit
set_option linter.unusedVariables false
set_option linter.unusedSimpArgs false

/-- the actions that bytes are, one behind the other, as D tells it -/
inductive AOk (D : List Int → Value → Prop) : List Int → List A11 → Prop
  | nil : AOk D [] []
  | cons {l : List Int} {k p x q y f : Int} {m : Bool} {a b c d : Nat} {n : Nat} {L : List A11} : D l (okV k p x q y f m a b c d n) → art k p x q y f m a b c d = true → 0 < n → n ≤ l.length → aencL k p x q y f m a b c d = l.take n → a < 18446744073709551616 → b < 18446744073709551616 → c < 18446744073709551616 → d < 18446744073709551616 → AOk D (l.drop n) L → AOk D l ((k, p, x, q, y, f, m, a, b, c, d) :: L)
inductive ABad (D : List Int → Value → Prop) : List Int → Int → Prop
  | here {l : List Int} {z : Int} : 0 < l.length → D l (badV z) → ABad D l z
  | cons {l : List Int} {k p x q y f : Int} {m : Bool} {a b c d : Nat} {n : Nat} {z : Int} : D l (okV k p x q y f m a b c d n) → 0 < n → n ≤ l.length → ABad D (l.drop n) z → ABad D l z
theorem aok_enc : ∀ L : List A11, AFit L → L.all artO = true → AOk Ans (encA L) L
  | [], _, _ => .nil
  | (k, p, x, q, y, f, m, a, b, c, d) :: r, hF, hr => by
    have hr' : art k p x q y f m a b c d = true ∧ r.all artO = true := by
      rw [List.all_cons, Bool.and_eq_true] at hr
      exact hr
    obtain ⟨g1, g2, g3, g4⟩ := hF k p x q y f m a b c d (by simp)
    have h8 := (aenc_len g1 g2 g3 g4 hr'.1).2.2
    obtain ⟨N, h1, h2, h3, h4⟩ := adec_enc (encA r) g1 g2 g3 g4 hr'.1
    have e : encA ((k, p, x, q, y, f, m, a, b, c, d) :: r) = aencL k p x q y f m a b c d ++ encA r := by simp [encA, aencO]
    rw [e]
    refine .cons h1 hr'.1 (by omega) (by rw [List.length_append]; omega) (by rw [← h2, List.take_left]) g1 g2 g3 g4 ?_
    rw [← h2, List.drop_left]
    exact aok_enc r hF.tail hr'.2
theorem take_snoc {pre : List A11} {K : List A11} {o : A11} (h : K = pre.take 101) (hk : K.length ≤ 100) : K ++ [o] = (pre ++ [o]).take 101 := by
  have hp : pre.length ≤ 100 := by rw [h, List.length_take] at hk; omega
  have e : K = pre := by rw [h, List.take_of_length_le (by omega)]
  rw [e, List.take_of_length_le (by simp; omega)]
theorem take_skip {pre : List A11} {K : List A11} {o : A11} (h : K = pre.take 101) (hk : ¬ K.length ≤ 100) : K = (pre ++ [o]).take 101 := by
  have hp : 101 ≤ pre.length := by rw [h, List.length_take] at hk; omega
  rw [h, List.take_append_of_le_length hp]
def slen2 : Value → Nat | .slice _ n _ => n | _ => 0
theorem far3row {w : World} {base g n sz : Nat} {e : TypeId} {v : Value} {xs : List Value} (ho : w.ownsRow base e sz v n xs) (hg : g < base) : ∀ x y z : Value, (((w.setCell ⟨g, 0, none⟩ x).setCell ⟨g, 1, none⟩ y).setCell ⟨g, 2, none⟩ z).ownsRow base e sz v n xs := by
  intro x y z
  refine ⟨ho.1, ?_⟩
  rcases ho.2 with hn | ⟨g', cap, cur, rfl, hb, hgg, rest⟩
  · exact .inl hn
  · refine .inr ⟨g', cap, cur, rfl, hb, ?_, rest⟩
    have far : ∀ (w : World) (j : Nat) (u : Value), (w.setCell ⟨g, j, none⟩ u).heap[g']? = w.heap[g']? := fun w j u => Below.heap_setCell w _ u g' (by show g' ≠ g; omega)
    rw [far, far, far]
    exact hgg
end

section
open Go Go.RowKit
set_option linter.unusedVariables false
set_option linter.unusedSimpArgs false

set_option maxRecDepth 100000 in
set_option maxHeartbeats 8000000 in
theorem ad_ok (v : Value) (l0 : List Int) (L : List A11) (w : World) (hB : Bytes w v l0) (hP : AOk Ans l0 L) (hLL : L.length ≤ 100) :
    Calls Tryz.prog 93 #[v] w fun e w' => (∃ r, e = .returned (.tuple #[r, .agg #[.bool false, .int .i64 0, .int .i64 0]]) ∧ w'.ownsRow w.heap.size 61 11 r L.length (ads L)) ∧ Below w.heap.size w w' := by
  have F0 := hide_ (AB.at0 w 44 [.bool false, .int .i64 0, .int .i64 0])
  have B0 := hide_ (below1 w (.cells #[.bool false, .int .i64 0, .int .i64 0] 44))
  obtain ⟨ao0, cap0, rfl, hbr⟩ := hB
  have hB : Bytes w (.slice ao0 l0.length cap0) l0 := ⟨ao0, cap0, rfl, hbr⟩
  have HB0 := hide_ (hB.later B0.out)
  clear hB hbr
  obtain ⟨i0, hi0, hz0, hz1, hz2⟩ := info_parts infoAc
  have HI : Hid (Tryz.prog.info? 61 = some i0 ∧ i0.zero = some (.agg #[.int .i64 0, .int .i64 0, .int .i64 0, .int .i64 0, .int .i64 0, .int .i64 0, .bool false, .int .u64 0, .int .u64 0, .int .u64 0, .int .u64 0]) ∧ i0.size = 11 ∧ i0.bytes = 88) := ⟨hi0, hz0, hz1, hz2⟩
  clear hi0 hz0 hz1 hz2
  have HP := hide_ hP
  clear hP
  have HLL := hide_ hLL
  clear hLL
  go_enter Tryz.func93, Tryz.ntmps93
  go_wp2
  go_loopw [0, 4] (fun b u wr => ∃ (ao : Option Addr) (n cap : Nat) (ua : Option Addr) (uc : Nat) (l : List Int) (pre K : List A11) (R : List A11), b = .slice ao n cap ∧ u = .slice ua K.length uc ∧ n = l.length ∧ K.length ≤ 101 ∧ Hid (Bytes (w.alloc (.cells #[.bool false, .int .i64 0, .int .i64 0] 44)) (.slice ao n cap) l) ∧ Hid (wr.ownsRow (w.alloc (.cells #[.bool false, .int .i64 0, .int .i64 0] 44)).heap.size 61 11 (.slice ua K.length uc) K.length (ads K)) ∧ Hid (AOk Ans l R ∧ pre ++ R = L) ∧ Hid (K = pre.take 101) ∧ Hid (Below (w.alloc (.cells #[.bool false, .int .i64 0, .int .i64 0] 44)).heap.size (w.alloc (.cells #[.bool false, .int .i64 0, .int .i64 0] 44)) wr)) (fun b _ _ => slen2 b)
  case atStart => exact ⟨ao0, l0.length, cap0, none, 0, l0, [], [], L, rfl, rfl, rfl, by simp, HB0, hide_ (World.ownsRow_nil _ _ _ _), hide_ ⟨HP.out, rfl⟩, hide_ rfl, hide_ (Below.refl _ _)⟩
  case round =>
    obtain ⟨ao, n, cap, ua, uc, l, pre, K, R, rfl, rfl, rfl, hKl, HBy, HOw, HPP, HK, KB⟩ := hrel
    obtain ⟨hpo, hpre⟩ := HPP.out
    clear HPP
    cases hpo with
    | nil =>
      have hpr : pre = L := by simpa using hpre
      obtain ⟨s0, s1, s2, s3, s4, s5⟩ := (F0.out.later KB.out).three
      obtain ⟨u0, u1, u2, -⟩ := ((F0.out.later KB.out).set3 (.bool false) (.int .i64 0) (.int .i64 0)).three
      have bb := below_set3 (g := w.heap.size) (B0.out.trans (KB.out.mono B0.out.size)) (Nat.le_refl _) (.bool false) (.int .i64 0) (.int .i64 0)
      have hne : w.heap.size < (w.alloc (.cells #[.bool false, .int .i64 0, .int .i64 0] 44)).heap.size := by simp
      have HX := hide_ (far3row HOw.out hne)
      have hKL : K = L := by rw [HK.out, hpr, List.take_of_length_le (by have := HLL.out; omega)]
      have g100 : ¬ (100 : Int) < (K.length : Int) := by rw [hKL]; have := HLL.out; omega
      have HKL := hide_ hKL
      clear hpre hpr hKL
      go_wp2
      refine bodyPost_ret (v := .tuple #[.slice ua K.length uc, .agg #[.bool false, .int .i64 0, .int .i64 0]]) (by simp [results, Tryz.results93, go_sem, u0, u1, u2]) rfl ⟨⟨_, rfl, ?_⟩, bb⟩
      rw [← HKL.out]
      exact ownr_base (HX.out _ _ _) (by simp)
    | @cons _ k p x q y f m a b c d nn RR hd hr h0 hle he g1 g2 g3 g4 hrest =>
      have qd := hd _ wr (HBy.out.later KB.out)
      unfold okV at qd
      have qd := hide_ qd
      obtain ⟨ao2, -, s2, b2⟩ := bytes_slice HBy.out nn hle
      have HB2 := hide_ b2
      clear b2 hd
      have gpos : (0 : Int) < (l.length : Int) := by omega
      by_cases hk : K.length ≤ 100
      · have g100 : (K.length : Int) ≤ 100 := by omega
        have HK2 := hide_ (take_snoc (o := (k, p, x, q, y, f, m, a, b, c, d)) HK.out hk)
        go_wp2_with (first | (go_at_call 124; refine (qd.out).mono ?_; rintro e w3 ⟨rfl, b3⟩; have j3 : Below wr.heap.size wr ((w3.alloc (.cells #[.int .i64 k, .int .i64 p, .int .i64 x, .int .i64 q, .int .i64 y, .int .i64 f, .bool m, .int .u64 (a : Int), .int .u64 (b : Int), .int .u64 (c : Int), .int .u64 (d : Int)] 61)).alloc (.cells #[.bool false, .int .i64 0, .int .i64 0] 44)) := b3.trans ((below2 w3 _ _).mono b3.size); have K3 := KB.out.trans (j3.mono KB.out.size); obtain ⟨o0, o1, o2, o3, o4, o5, o6, o7, o8, o9, o10, -⟩ := ((AB.at0 w3 61 [.int .i64 k, .int .i64 p, .int .i64 x, .int .i64 q, .int .i64 y, .int .i64 f, .bool m, .int .u64 (a : Int), .int .u64 (b : Int), .int .u64 (c : Int), .int .u64 (d : Int)]).alloc (.cells #[.bool false, .int .i64 0, .int .i64 0] 44)).eleven; obtain ⟨f0, f1, f2, -⟩ := (AB.at1 w3 (.cells #[.int .i64 k, .int .i64 p, .int .i64 x, .int .i64 q, .int .i64 y, .int .i64 f, .bool m, .int .u64 (a : Int), .int .u64 (b : Int), .int .u64 (c : Int), .int .u64 (d : Int)] 61) 44 [.bool false, .int .i64 0, .int .i64 0]).three) | (at_builtin; refine wpList_append_new (.tmp 23) (.tmp 25) 32 rfl 61 i0 (.agg #[.int .i64 0, .int .i64 0, .int .i64 0, .int .i64 0, .int .i64 0, .int .i64 0, .bool false, .int .u64 0, .int .u64 0, .int .u64 0, .int .u64 0]) 11 88 Tryz.underlying32 HI.out.1 HI.out.2.1 HI.out.2.2.1 HI.out.2.2.2 rfl (by decide) (w.alloc (.cells #[.bool false, .int .i64 0, .int .i64 0] 44)).heap.size (.slice ua K.length uc) K.length (ads K) (by simp [Act.eval, Act.put]) ((w3.alloc (.cells #[.int .i64 k, .int .i64 p, .int .i64 x, .int .i64 q, .int .i64 y, .int .i64 f, .bool m, .int .u64 (a : Int), .int .u64 (b : Int), .int .u64 (c : Int), .int .u64 (d : Int)] 61)).alloc (.cells #[.bool false, .int .i64 0, .int .i64 0] 44)) (ownr_later HOw.out j3) [.int .i64 k, .int .i64 p, .int .i64 x, .int .i64 q, .int .i64 y, .int .i64 f, .bool m, .int .u64 (a : Int), .int .u64 (b : Int), .int .u64 (c : Int), .int .u64 (d : Int)] _ rfl 1 (by simp) (by simp [Value.oneCell']) (by simp [Act.eval, Act.put]) (by simp [Region.wanted]) (by unfold maxLen; omega) (by omega) K3.size ?_; intro v4 w4 own4 b4))
        have own4 : w4.ownsRow (w.alloc (.cells #[.bool false, .int .i64 0, .int .i64 0] 44)).heap.size 61 11 v4 (K ++ [(k, p, x, q, y, f, m, a, b, c, d)]).length (ads (K ++ [(k, p, x, q, y, f, m, a, b, c, d)])) := by
          rw [ads_snoc, List.length_append]
          exact own4
        obtain ⟨ua4, uc4, e4⟩ := ownr_form own4
        subst e4
        have own4 := hide_ own4
        go_wp2
        go_roundw
        case rel => exact ⟨ao2, l.length - nn, cap - nn, ua4, uc4, l.drop nn, pre ++ [(k, p, x, q, y, f, m, a, b, c, d)], K ++ [(k, p, x, q, y, f, m, a, b, c, d)], RR, rfl, rfl, by rw [List.length_drop], by simp; omega, HB2, own4, hide_ ⟨hrest, by rw [← hpre]; simp⟩, HK2, hide_ (K3.trans b4)⟩
        case measure => simp [slen2]; omega
      · have g100 : ¬ ((K.length : Int) ≤ 100) := by omega
        have HK2 := hide_ (take_skip (o := (k, p, x, q, y, f, m, a, b, c, d)) HK.out hk)
        go_wp2_with (go_at_call 124; refine (qd.out).mono ?_; rintro e w3 ⟨rfl, b3⟩; have j3 : Below wr.heap.size wr ((w3.alloc (.cells #[.int .i64 k, .int .i64 p, .int .i64 x, .int .i64 q, .int .i64 y, .int .i64 f, .bool m, .int .u64 (a : Int), .int .u64 (b : Int), .int .u64 (c : Int), .int .u64 (d : Int)] 61)).alloc (.cells #[.bool false, .int .i64 0, .int .i64 0] 44)) := b3.trans ((below2 w3 _ _).mono b3.size); have K3 := KB.out.trans (j3.mono KB.out.size); obtain ⟨o0, o1, o2, o3, o4, o5, o6, o7, o8, o9, o10, -⟩ := ((AB.at0 w3 61 [.int .i64 k, .int .i64 p, .int .i64 x, .int .i64 q, .int .i64 y, .int .i64 f, .bool m, .int .u64 (a : Int), .int .u64 (b : Int), .int .u64 (c : Int), .int .u64 (d : Int)]).alloc (.cells #[.bool false, .int .i64 0, .int .i64 0] 44)).eleven; obtain ⟨f0, f1, f2, -⟩ := (AB.at1 w3 (.cells #[.int .i64 k, .int .i64 p, .int .i64 x, .int .i64 q, .int .i64 y, .int .i64 f, .bool m, .int .u64 (a : Int), .int .u64 (b : Int), .int .u64 (c : Int), .int .u64 (d : Int)] 61) 44 [.bool false, .int .i64 0, .int .i64 0]).three)
        go_roundw
        case rel => exact ⟨ao2, l.length - nn, cap - nn, ua, uc, l.drop nn, pre ++ [(k, p, x, q, y, f, m, a, b, c, d)], K, RR, rfl, rfl, by rw [List.length_drop], by omega, HB2, hide_ (ownr_later HOw.out j3), hide_ ⟨hrest, by rw [← hpre]; simp⟩, HK2, hide_ K3⟩
        case measure => simp [slen2]; omega
end

section
open Go Go.RowKit
set_option linter.unusedVariables false
set_option linter.unusedSimpArgs false

set_option maxRecDepth 100000 in
set_option maxHeartbeats 8000000 in
theorem ad_many (v : Value) (l0 : List Int) (L : List A11) (w : World) (hB : Bytes w v l0) (hP : AOk Ans l0 L) (hLL : 100 < L.length) :
    Calls Tryz.prog 93 #[v] w fun e w' => (e = .returned (.tuple #[.slice none 0 0, .agg #[.bool true, .int .i64 2, .int .i64 7]])) ∧ Below w.heap.size w w' := by
  have F0 := hide_ (AB.at0 w 44 [.bool false, .int .i64 0, .int .i64 0])
  have B0 := hide_ (below1 w (.cells #[.bool false, .int .i64 0, .int .i64 0] 44))
  obtain ⟨ao0, cap0, rfl, hbr⟩ := hB
  have hB : Bytes w (.slice ao0 l0.length cap0) l0 := ⟨ao0, cap0, rfl, hbr⟩
  have HB0 := hide_ (hB.later B0.out)
  clear hB hbr
  obtain ⟨i0, hi0, hz0, hz1, hz2⟩ := info_parts infoAc
  have HI : Hid (Tryz.prog.info? 61 = some i0 ∧ i0.zero = some (.agg #[.int .i64 0, .int .i64 0, .int .i64 0, .int .i64 0, .int .i64 0, .int .i64 0, .bool false, .int .u64 0, .int .u64 0, .int .u64 0, .int .u64 0]) ∧ i0.size = 11 ∧ i0.bytes = 88) := ⟨hi0, hz0, hz1, hz2⟩
  clear hi0 hz0 hz1 hz2
  have HP := hide_ hP
  clear hP
  have HLL := hide_ hLL
  clear hLL
  go_enter Tryz.func93, Tryz.ntmps93
  go_wp2
  go_loopw [0, 4] (fun b u wr => ∃ (ao : Option Addr) (n cap : Nat) (ua : Option Addr) (uc : Nat) (l : List Int) (pre K : List A11) (R : List A11), b = .slice ao n cap ∧ u = .slice ua K.length uc ∧ n = l.length ∧ K.length ≤ 101 ∧ Hid (Bytes (w.alloc (.cells #[.bool false, .int .i64 0, .int .i64 0] 44)) (.slice ao n cap) l) ∧ Hid (wr.ownsRow (w.alloc (.cells #[.bool false, .int .i64 0, .int .i64 0] 44)).heap.size 61 11 (.slice ua K.length uc) K.length (ads K)) ∧ Hid (AOk Ans l R ∧ pre ++ R = L) ∧ Hid (K = pre.take 101) ∧ Hid (Below (w.alloc (.cells #[.bool false, .int .i64 0, .int .i64 0] 44)).heap.size (w.alloc (.cells #[.bool false, .int .i64 0, .int .i64 0] 44)) wr)) (fun b _ _ => slen2 b)
  case atStart => exact ⟨ao0, l0.length, cap0, none, 0, l0, [], [], L, rfl, rfl, rfl, by simp, HB0, hide_ (World.ownsRow_nil _ _ _ _), hide_ ⟨HP.out, rfl⟩, hide_ rfl, hide_ (Below.refl _ _)⟩
  case round =>
    obtain ⟨ao, n, cap, ua, uc, l, pre, K, R, rfl, rfl, rfl, hKl, HBy, HOw, HPP, HK, KB⟩ := hrel
    obtain ⟨hpo, hpre⟩ := HPP.out
    clear HPP
    cases hpo with
    | nil =>
      have hpr : pre = L := by simpa using hpre
      obtain ⟨s0, s1, s2, s3, s4, s5⟩ := (F0.out.later KB.out).three
      obtain ⟨u0, u1, u2, -⟩ := ((F0.out.later KB.out).set3 (.bool true) (.int .i64 2) (.int .i64 7)).three
      have bb := below_set3 (g := w.heap.size) (B0.out.trans (KB.out.mono B0.out.size)) (Nat.le_refl _) (.bool true) (.int .i64 2) (.int .i64 7)
      have g100 : (100 : Int) < (K.length : Int) := by rw [HK.out, hpr, List.length_take]; have := HLL.out; omega
      clear hpre hpr
      go_wp2
      exact bodyPost_ret (v := .tuple #[.slice none 0 0, .agg #[.bool true, .int .i64 2, .int .i64 7]]) (by simp [results, Tryz.results93, go_sem, u0, u1, u2]) rfl ⟨rfl, bb⟩
    | @cons _ k p x q y f m a b c d nn RR hd hr h0 hle he g1 g2 g3 g4 hrest =>
      have qd := hd _ wr (HBy.out.later KB.out)
      unfold okV at qd
      have qd := hide_ qd
      obtain ⟨ao2, -, s2, b2⟩ := bytes_slice HBy.out nn hle
      have HB2 := hide_ b2
      clear b2 hd
      have gpos : (0 : Int) < (l.length : Int) := by omega
      by_cases hk : K.length ≤ 100
      · have g100 : (K.length : Int) ≤ 100 := by omega
        have HK2 := hide_ (take_snoc (o := (k, p, x, q, y, f, m, a, b, c, d)) HK.out hk)
        go_wp2_with (first | (go_at_call 124; refine (qd.out).mono ?_; rintro e w3 ⟨rfl, b3⟩; have j3 : Below wr.heap.size wr ((w3.alloc (.cells #[.int .i64 k, .int .i64 p, .int .i64 x, .int .i64 q, .int .i64 y, .int .i64 f, .bool m, .int .u64 (a : Int), .int .u64 (b : Int), .int .u64 (c : Int), .int .u64 (d : Int)] 61)).alloc (.cells #[.bool false, .int .i64 0, .int .i64 0] 44)) := b3.trans ((below2 w3 _ _).mono b3.size); have K3 := KB.out.trans (j3.mono KB.out.size); obtain ⟨o0, o1, o2, o3, o4, o5, o6, o7, o8, o9, o10, -⟩ := ((AB.at0 w3 61 [.int .i64 k, .int .i64 p, .int .i64 x, .int .i64 q, .int .i64 y, .int .i64 f, .bool m, .int .u64 (a : Int), .int .u64 (b : Int), .int .u64 (c : Int), .int .u64 (d : Int)]).alloc (.cells #[.bool false, .int .i64 0, .int .i64 0] 44)).eleven; obtain ⟨f0, f1, f2, -⟩ := (AB.at1 w3 (.cells #[.int .i64 k, .int .i64 p, .int .i64 x, .int .i64 q, .int .i64 y, .int .i64 f, .bool m, .int .u64 (a : Int), .int .u64 (b : Int), .int .u64 (c : Int), .int .u64 (d : Int)] 61) 44 [.bool false, .int .i64 0, .int .i64 0]).three) | (at_builtin; refine wpList_append_new (.tmp 23) (.tmp 25) 32 rfl 61 i0 (.agg #[.int .i64 0, .int .i64 0, .int .i64 0, .int .i64 0, .int .i64 0, .int .i64 0, .bool false, .int .u64 0, .int .u64 0, .int .u64 0, .int .u64 0]) 11 88 Tryz.underlying32 HI.out.1 HI.out.2.1 HI.out.2.2.1 HI.out.2.2.2 rfl (by decide) (w.alloc (.cells #[.bool false, .int .i64 0, .int .i64 0] 44)).heap.size (.slice ua K.length uc) K.length (ads K) (by simp [Act.eval, Act.put]) ((w3.alloc (.cells #[.int .i64 k, .int .i64 p, .int .i64 x, .int .i64 q, .int .i64 y, .int .i64 f, .bool m, .int .u64 (a : Int), .int .u64 (b : Int), .int .u64 (c : Int), .int .u64 (d : Int)] 61)).alloc (.cells #[.bool false, .int .i64 0, .int .i64 0] 44)) (ownr_later HOw.out j3) [.int .i64 k, .int .i64 p, .int .i64 x, .int .i64 q, .int .i64 y, .int .i64 f, .bool m, .int .u64 (a : Int), .int .u64 (b : Int), .int .u64 (c : Int), .int .u64 (d : Int)] _ rfl 1 (by simp) (by simp [Value.oneCell']) (by simp [Act.eval, Act.put]) (by simp [Region.wanted]) (by unfold maxLen; omega) (by omega) K3.size ?_; intro v4 w4 own4 b4))
        have own4 : w4.ownsRow (w.alloc (.cells #[.bool false, .int .i64 0, .int .i64 0] 44)).heap.size 61 11 v4 (K ++ [(k, p, x, q, y, f, m, a, b, c, d)]).length (ads (K ++ [(k, p, x, q, y, f, m, a, b, c, d)])) := by
          rw [ads_snoc, List.length_append]
          exact own4
        obtain ⟨ua4, uc4, e4⟩ := ownr_form own4
        subst e4
        have own4 := hide_ own4
        go_wp2
        go_roundw
        case rel => exact ⟨ao2, l.length - nn, cap - nn, ua4, uc4, l.drop nn, pre ++ [(k, p, x, q, y, f, m, a, b, c, d)], K ++ [(k, p, x, q, y, f, m, a, b, c, d)], RR, rfl, rfl, by rw [List.length_drop], by simp; omega, HB2, own4, hide_ ⟨hrest, by rw [← hpre]; simp⟩, HK2, hide_ (K3.trans b4)⟩
        case measure => simp [slen2]; omega
      · have g100 : ¬ ((K.length : Int) ≤ 100) := by omega
        have HK2 := hide_ (take_skip (o := (k, p, x, q, y, f, m, a, b, c, d)) HK.out hk)
        go_wp2_with (go_at_call 124; refine (qd.out).mono ?_; rintro e w3 ⟨rfl, b3⟩; have j3 : Below wr.heap.size wr ((w3.alloc (.cells #[.int .i64 k, .int .i64 p, .int .i64 x, .int .i64 q, .int .i64 y, .int .i64 f, .bool m, .int .u64 (a : Int), .int .u64 (b : Int), .int .u64 (c : Int), .int .u64 (d : Int)] 61)).alloc (.cells #[.bool false, .int .i64 0, .int .i64 0] 44)) := b3.trans ((below2 w3 _ _).mono b3.size); have K3 := KB.out.trans (j3.mono KB.out.size); obtain ⟨o0, o1, o2, o3, o4, o5, o6, o7, o8, o9, o10, -⟩ := ((AB.at0 w3 61 [.int .i64 k, .int .i64 p, .int .i64 x, .int .i64 q, .int .i64 y, .int .i64 f, .bool m, .int .u64 (a : Int), .int .u64 (b : Int), .int .u64 (c : Int), .int .u64 (d : Int)]).alloc (.cells #[.bool false, .int .i64 0, .int .i64 0] 44)).eleven; obtain ⟨f0, f1, f2, -⟩ := (AB.at1 w3 (.cells #[.int .i64 k, .int .i64 p, .int .i64 x, .int .i64 q, .int .i64 y, .int .i64 f, .bool m, .int .u64 (a : Int), .int .u64 (b : Int), .int .u64 (c : Int), .int .u64 (d : Int)] 61) 44 [.bool false, .int .i64 0, .int .i64 0]).three)
        go_roundw
        case rel => exact ⟨ao2, l.length - nn, cap - nn, ua, uc, l.drop nn, pre ++ [(k, p, x, q, y, f, m, a, b, c, d)], K, RR, rfl, rfl, by rw [List.length_drop], by omega, HB2, hide_ (ownr_later HOw.out j3), hide_ ⟨hrest, by rw [← hpre]; simp⟩, HK2, hide_ K3⟩
        case measure => simp [slen2]; omega
end

section
open Go Go.RowKit
set_option linter.unusedVariables false
set_option linter.unusedSimpArgs false

set_option maxRecDepth 100000 in
set_option maxHeartbeats 8000000 in
theorem ad_bad (v : Value) (l0 : List Int) (z : Int) (w : World) (hB : Bytes w v l0) (hP : ABad Ans l0 z) :
    Calls Tryz.prog 93 #[v] w fun e w' => (e = .returned (.tuple #[.slice none 0 0, .agg #[.bool true, .int .i64 2, .int .i64 z]])) ∧ Below w.heap.size w w' := by
  have F0 := hide_ (AB.at0 w 44 [.bool false, .int .i64 0, .int .i64 0])
  have B0 := hide_ (below1 w (.cells #[.bool false, .int .i64 0, .int .i64 0] 44))
  obtain ⟨ao0, cap0, rfl, hbr⟩ := hB
  have hB : Bytes w (.slice ao0 l0.length cap0) l0 := ⟨ao0, cap0, rfl, hbr⟩
  have HB0 := hide_ (hB.later B0.out)
  clear hB hbr
  obtain ⟨i0, hi0, hz0, hz1, hz2⟩ := info_parts infoAc
  have HI : Hid (Tryz.prog.info? 61 = some i0 ∧ i0.zero = some (.agg #[.int .i64 0, .int .i64 0, .int .i64 0, .int .i64 0, .int .i64 0, .int .i64 0, .bool false, .int .u64 0, .int .u64 0, .int .u64 0, .int .u64 0]) ∧ i0.size = 11 ∧ i0.bytes = 88) := ⟨hi0, hz0, hz1, hz2⟩
  clear hi0 hz0 hz1 hz2
  have HP := hide_ hP
  clear hP
  go_enter Tryz.func93, Tryz.ntmps93
  go_wp2
  go_loopw [0, 4] (fun b u wr => ∃ (ao : Option Addr) (n cap : Nat) (ua : Option Addr) (uc : Nat) (l : List Int) (pre K : List A11), b = .slice ao n cap ∧ u = .slice ua K.length uc ∧ n = l.length ∧ K.length ≤ 101 ∧ Hid (Bytes (w.alloc (.cells #[.bool false, .int .i64 0, .int .i64 0] 44)) (.slice ao n cap) l) ∧ Hid (wr.ownsRow (w.alloc (.cells #[.bool false, .int .i64 0, .int .i64 0] 44)).heap.size 61 11 (.slice ua K.length uc) K.length (ads K)) ∧ Hid (ABad Ans l z) ∧ Hid (K = pre.take 101) ∧ Hid (Below (w.alloc (.cells #[.bool false, .int .i64 0, .int .i64 0] 44)).heap.size (w.alloc (.cells #[.bool false, .int .i64 0, .int .i64 0] 44)) wr)) (fun b _ _ => slen2 b)
  case atStart => exact ⟨ao0, l0.length, cap0, none, 0, l0, [], [], rfl, rfl, rfl, by simp, HB0, hide_ (World.ownsRow_nil _ _ _ _), HP, hide_ rfl, hide_ (Below.refl _ _)⟩
  case round =>
    obtain ⟨ao, n, cap, ua, uc, l, pre, K, rfl, rfl, rfl, hKl, HBy, HOw, HPP, HK, KB⟩ := hrel
    have hpo := HPP.out
    clear HPP
    cases hpo with
    | here h0 hd =>
      have qd := hd _ wr (HBy.out.later KB.out)
      unfold badV at qd
      have qd := hide_ qd
      clear hd
      have gpos : (0 : Int) < (l.length : Int) := by omega
      go_upto_region 5 with (first | (go_at_call 124; refine (qd.out).mono ?_; rintro e w3 ⟨rfl, b3⟩; have j3 : Below wr.heap.size wr ((w3.alloc (.cells #[.int .i64 0, .int .i64 0, .int .i64 0, .int .i64 0, .int .i64 0, .int .i64 0, .bool false, .int .u64 0, .int .u64 0, .int .u64 0, .int .u64 0] 61)).alloc (.cells #[.bool true, .int .i64 2, .int .i64 z] 44)) := b3.trans ((below2 w3 _ _).mono b3.size); have K3 := KB.out.trans (j3.mono KB.out.size); obtain ⟨o0, o1, o2, o3, o4, o5, o6, o7, o8, o9, o10, -⟩ := ((AB.at0 w3 61 [.int .i64 0, .int .i64 0, .int .i64 0, .int .i64 0, .int .i64 0, .int .i64 0, .bool false, .int .u64 0, .int .u64 0, .int .u64 0, .int .u64 0]).alloc (.cells #[.bool true, .int .i64 2, .int .i64 z] 44)).eleven; obtain ⟨f0, f1, f2, -⟩ := (AB.at1 w3 (.cells #[.int .i64 0, .int .i64 0, .int .i64 0, .int .i64 0, .int .i64 0, .int .i64 0, .bool false, .int .u64 0, .int .u64 0, .int .u64 0, .int .u64 0] 61) 44 [.bool true, .int .i64 2, .int .i64 z]).three))
      have BX := B0.out.trans (K3.mono B0.out.size)
      have hgw : w.heap.size < w3.heap.size := Nat.lt_of_lt_of_le (Nat.lt_of_lt_of_le (by simp) KB.out.size) b3.size
      have FD := F0.out.later K3
      generalize ((w3.alloc (.cells #[.int .i64 0, .int .i64 0, .int .i64 0, .int .i64 0, .int .i64 0, .int .i64 0, .bool false, .int .u64 0, .int .u64 0, .int .u64 0, .int .u64 0] 61)).alloc (.cells #[.bool true, .int .i64 2, .int .i64 z] 44)) = X at *
      have FD : AB X.drew w.heap.size 44 [.bool false, .int .i64 0, .int .i64 0] := FD
      obtain ⟨s0, s1, s2, s3, s4, s5⟩ := FD.three
      obtain ⟨u0, u1, u2, -⟩ := (FD.set3 (.bool true) (.int .i64 2) (.int .i64 z)).three
      clear FD
      refine wp_region_held_drew (S := (fun w' => w'.cell? ⟨w3.heap.size + 1, 0, none⟩ = some (.bool true) ∧ w'.cell? ⟨w3.heap.size + 1, 1, none⟩ = some (.int .i64 2) ∧ w'.cell? ⟨w3.heap.size + 1, 2, none⟩ = some (.int .i64 z) ∧ Below w.heap.size w w')) (by kernel_rfl) (⟨f0, f1, f2, BX.drew⟩) (fun hHeld => ?_)
      generalize X.drew = D at *
      refine takeR (i := 0) (v := ?_) rfl (by kernel_rfl) (by kernel_rfl) (by kernel_rfl) (some 19) rfl (Or.inl ⟨by rfl, ?_⟩) (fun _ _ _ h => h) (by assumption) ?_
      rotate_left
      · intro w hSw; (try dsimp only at hSw); go_simp; (try with_reducible rfl)
      simp only [Act.put, List.setIfInBounds_toArray, List.set_cons_zero, List.set_cons_succ]
      refine takeR (i := 1) (v := ?_) rfl (by kernel_rfl) (by kernel_rfl) (by kernel_rfl) (some 2) rfl (Or.inl ⟨by rfl, ?_⟩) (fun _ _ _ h => h) (by assumption) ?_
      rotate_left
      · intro w hSw; (try dsimp only at hSw); go_simp; (try with_reducible rfl)
      simp only [Act.put, List.setIfInBounds_toArray, List.set_cons_zero, List.set_cons_succ]
      refine wpAnyH_ready (rs := [2]) (by kernel_rfl) (by simp) ?_
      refine AllReadyH.cons rfl (fun K hK => ?_) (AllReadyH.nil)
      go_simp
      refine hK.out _ _ (kW3_3 hHeld (by omega) (by dsimp only; omega) (by dsimp only; omega) (by dsimp only; omega)) (fun hHeld => ?_)
      clear hK K
      try simp only [Act.put, List.setIfInBounds_toArray, List.set_cons_zero, List.set_cons_succ]
      refine wpAnyH_done (by kernel_rfl) ?_ _
      go_wp2_with fail
      exact bodyPost_ret (v := .tuple #[.slice none 0 0, .agg #[.bool true, .int .i64 2, .int .i64 z]]) (by simp [results, Tryz.results93, go_sem, u0, u1, u2]) rfl ⟨rfl, hHeld.2.2.2⟩
    | @cons _ k p x q y f m a b c d nn _ hd h0 hle hrest =>
      have qd := hd _ wr (HBy.out.later KB.out)
      unfold okV at qd
      have qd := hide_ qd
      obtain ⟨ao2, -, s2, b2⟩ := bytes_slice HBy.out nn hle
      have HB2 := hide_ b2
      clear b2 hd
      have gpos : (0 : Int) < (l.length : Int) := by omega
      by_cases hk : K.length ≤ 100
      · have g100 : (K.length : Int) ≤ 100 := by omega
        have HK2 := hide_ (take_snoc (o := (k, p, x, q, y, f, m, a, b, c, d)) HK.out hk)
        go_wp2_with (first | (go_at_call 124; refine (qd.out).mono ?_; rintro e w3 ⟨rfl, b3⟩; have j3 : Below wr.heap.size wr ((w3.alloc (.cells #[.int .i64 k, .int .i64 p, .int .i64 x, .int .i64 q, .int .i64 y, .int .i64 f, .bool m, .int .u64 (a : Int), .int .u64 (b : Int), .int .u64 (c : Int), .int .u64 (d : Int)] 61)).alloc (.cells #[.bool false, .int .i64 0, .int .i64 0] 44)) := b3.trans ((below2 w3 _ _).mono b3.size); have K3 := KB.out.trans (j3.mono KB.out.size); obtain ⟨o0, o1, o2, o3, o4, o5, o6, o7, o8, o9, o10, -⟩ := ((AB.at0 w3 61 [.int .i64 k, .int .i64 p, .int .i64 x, .int .i64 q, .int .i64 y, .int .i64 f, .bool m, .int .u64 (a : Int), .int .u64 (b : Int), .int .u64 (c : Int), .int .u64 (d : Int)]).alloc (.cells #[.bool false, .int .i64 0, .int .i64 0] 44)).eleven; obtain ⟨f0, f1, f2, -⟩ := (AB.at1 w3 (.cells #[.int .i64 k, .int .i64 p, .int .i64 x, .int .i64 q, .int .i64 y, .int .i64 f, .bool m, .int .u64 (a : Int), .int .u64 (b : Int), .int .u64 (c : Int), .int .u64 (d : Int)] 61) 44 [.bool false, .int .i64 0, .int .i64 0]).three) | (at_builtin; refine wpList_append_new (.tmp 23) (.tmp 25) 32 rfl 61 i0 (.agg #[.int .i64 0, .int .i64 0, .int .i64 0, .int .i64 0, .int .i64 0, .int .i64 0, .bool false, .int .u64 0, .int .u64 0, .int .u64 0, .int .u64 0]) 11 88 Tryz.underlying32 HI.out.1 HI.out.2.1 HI.out.2.2.1 HI.out.2.2.2 rfl (by decide) (w.alloc (.cells #[.bool false, .int .i64 0, .int .i64 0] 44)).heap.size (.slice ua K.length uc) K.length (ads K) (by simp [Act.eval, Act.put]) ((w3.alloc (.cells #[.int .i64 k, .int .i64 p, .int .i64 x, .int .i64 q, .int .i64 y, .int .i64 f, .bool m, .int .u64 (a : Int), .int .u64 (b : Int), .int .u64 (c : Int), .int .u64 (d : Int)] 61)).alloc (.cells #[.bool false, .int .i64 0, .int .i64 0] 44)) (ownr_later HOw.out j3) [.int .i64 k, .int .i64 p, .int .i64 x, .int .i64 q, .int .i64 y, .int .i64 f, .bool m, .int .u64 (a : Int), .int .u64 (b : Int), .int .u64 (c : Int), .int .u64 (d : Int)] _ rfl 1 (by simp) (by simp [Value.oneCell']) (by simp [Act.eval, Act.put]) (by simp [Region.wanted]) (by unfold maxLen; omega) (by omega) K3.size ?_; intro v4 w4 own4 b4))
        have own4 : w4.ownsRow (w.alloc (.cells #[.bool false, .int .i64 0, .int .i64 0] 44)).heap.size 61 11 v4 (K ++ [(k, p, x, q, y, f, m, a, b, c, d)]).length (ads (K ++ [(k, p, x, q, y, f, m, a, b, c, d)])) := by
          rw [ads_snoc, List.length_append]
          exact own4
        obtain ⟨ua4, uc4, e4⟩ := ownr_form own4
        subst e4
        have own4 := hide_ own4
        go_wp2
        go_roundw
        case rel => exact ⟨ao2, l.length - nn, cap - nn, ua4, uc4, l.drop nn, pre ++ [(k, p, x, q, y, f, m, a, b, c, d)], K ++ [(k, p, x, q, y, f, m, a, b, c, d)], rfl, rfl, by rw [List.length_drop], by simp; omega, HB2, own4, hide_ hrest, HK2, hide_ (K3.trans b4)⟩
        case measure => simp [slen2]; omega
      · have g100 : ¬ ((K.length : Int) ≤ 100) := by omega
        have HK2 := hide_ (take_skip (o := (k, p, x, q, y, f, m, a, b, c, d)) HK.out hk)
        go_wp2_with (go_at_call 124; refine (qd.out).mono ?_; rintro e w3 ⟨rfl, b3⟩; have j3 : Below wr.heap.size wr ((w3.alloc (.cells #[.int .i64 k, .int .i64 p, .int .i64 x, .int .i64 q, .int .i64 y, .int .i64 f, .bool m, .int .u64 (a : Int), .int .u64 (b : Int), .int .u64 (c : Int), .int .u64 (d : Int)] 61)).alloc (.cells #[.bool false, .int .i64 0, .int .i64 0] 44)) := b3.trans ((below2 w3 _ _).mono b3.size); have K3 := KB.out.trans (j3.mono KB.out.size); obtain ⟨o0, o1, o2, o3, o4, o5, o6, o7, o8, o9, o10, -⟩ := ((AB.at0 w3 61 [.int .i64 k, .int .i64 p, .int .i64 x, .int .i64 q, .int .i64 y, .int .i64 f, .bool m, .int .u64 (a : Int), .int .u64 (b : Int), .int .u64 (c : Int), .int .u64 (d : Int)]).alloc (.cells #[.bool false, .int .i64 0, .int .i64 0] 44)).eleven; obtain ⟨f0, f1, f2, -⟩ := (AB.at1 w3 (.cells #[.int .i64 k, .int .i64 p, .int .i64 x, .int .i64 q, .int .i64 y, .int .i64 f, .bool m, .int .u64 (a : Int), .int .u64 (b : Int), .int .u64 (c : Int), .int .u64 (d : Int)] 61) 44 [.bool false, .int .i64 0, .int .i64 0]).three)
        go_roundw
        case rel => exact ⟨ao2, l.length - nn, cap - nn, ua, uc, l.drop nn, pre ++ [(k, p, x, q, y, f, m, a, b, c, d)], K, rfl, rfl, by rw [List.length_drop], by omega, HB2, hide_ (ownr_later HOw.out j3), hide_ hrest, HK2, hide_ K3⟩
        case measure => simp [slen2]; omega
end

end Go.Proofs.YthhijfphfcmniaaGreat

