import Derived.Test.YthamnlgjehlndaaGreatJP
import Derived.Test.YthamnlgjehlndaaGreatAs
import Derived.Test.YthamnlgjehlndaaGreatAt
import Derived.Test.YthamnlgjehlndaaGreatAe
import Derived.Test.YthamnlgjehlndaaGreatAh
import Derived.Test.YthamnlgjehlndaaGreatAk
import Derived.Deep.RegionHeld3
import Derived.Deep.RegionWith
import Derived.Deep.MidRow
import Derived.Deep.Cut
import Derived.Test.YthamnlgjehlndaaGreatOy
import Derived.Test.YthamnlgjehlndaaGreatXi
namespace Go.Proofs.YthamnlgjehlndaaGreat
section
open Go Go.RowKit
set_option linter.unusedVariables false
set_option linter.unusedSimpArgs false

def badV (c : Int) : Value := .tuple #[.agg #[.int .i64 0, .int .i64 0, .int .i64 0, .int .i64 0, .int .i64 0, .int .i64 0, .bool false, .int .u64 0, .int .u64 0, .int .u64 0, .int .u64 0], .int .i64 0, .agg #[.bool true, .int .i64 2, .int .i64 c]]
def okV (k p x q y f : Int) (m : Bool) (a b c d : Nat) (n : Nat) : Value := .tuple #[.agg #[.int .i64 k, .int .i64 p, .int .i64 x, .int .i64 q, .int .i64 y, .int .i64 f, .bool m, .int .u64 (a : Int), .int .u64 (b : Int), .int .u64 (c : Int), .int .u64 (d : Int)], .int .i64 (n : Int), .agg #[.bool false, .int .i64 0, .int .i64 0]]
/-- both answer so, at whatever world -/
def Ans (l : List Int) (r : Value) : Prop := ∀ v w, Bytes w v l → (Calls Tryz.prog 115 #[v] w fun e w' => e = .returned r ∧ Below w.heap.size w w')
def Reads (l : List Int) (N : Nat) (r : Value) : Prop := ∀ ao cap w, Bytes w (.slice ao N cap) l → Calls Tryz.prog 135 #[.slice ao N cap] w fun e w' => e = .returned r ∧ Below w.heap.size w w'
theorem rlen_ok {l : List Int} {N : Nat} (hN : be2 l 2 = (N : Int)) (h8 : 8 ≤ N) (hm : N % 8 = 0) (hle : N ≤ l.length) (ao : Option Addr) (cap : Nat) (W : World) (hB : Bytes W (.slice ao l.length cap) l) :
    Calls Tryz.prog 134 #[.slice ao l.length cap] W fun e w' => e = .returned (.tuple #[.int .i64 (N : Int), .agg #[.bool false, .int .i64 0, .int .i64 0]]) ∧ Below W.heap.size W w' := by
  have := rlen_e ao cap l W hB (by omega) (by omega) (by omega) (by omega)
  rw [hN] at this
  exact this
theorem P_gen {l : List Int} {N u : Nat} (k p x q y f : Int) (m : Bool) (a b c d : Nat) (hN : be2 l 2 = (N : Int)) (h8 : 8 ≤ N) (hm : N % 8 = 0) (hle : N ≤ l.length) (hu : u ≤ N) (hr : Reads (l.take N) N (okV k p x q y f m a b c d u)) :
    Ans l (if nzB ((l.take N).drop u) = true then badV 5 else match achk k p x q y f m with | some c => badV c | none => okV k p x q y f m a b c d N) := by
  intro v w hB
  obtain ⟨ao, cap, rfl, h1⟩ := hB
  have hB : Bytes w (.slice ao l.length cap) l := ⟨ao, cap, rfl, h1⟩
  obtain ⟨-, s1, b1⟩ := bytes_take hB N hle
  obtain ⟨ao2, s2, b2⟩ := bytes_mid hB u N hu hle
  have qL := fun W hW => rlen_ok hN h8 hm hle ao cap W (hB.later (w' := W) hW)
  have qR := fun W hW => hr ao cap W (b1.later (w' := W) hW)
  have qC := fun W hW => cont_any _ _ W (b2.later (w' := W) hW)
  have qK := fun w => achk_any k p x q y f m a b c d w
  cases hz : nzB ((l.take N).drop u)
  · rw [hz] at qC
    cases hc : achk k p x q y f m with
    | none =>
      rw [hc] at qK
      exact dec_ok _ _ _ N u k p x q y f m a b c d w qL s1 qR s2 qC qK
    | some c1 =>
      rw [hc] at qK
      exact dec_chk _ _ _ N u k p x q y f m a b c d 2 c1 w qL s1 qR s2 qC qK
  · rw [hz] at qC
    exact dec_nz _ _ _ N u k p x q y f m a b c d w qL s1 qR s2 qC
end

section
open Go Go.RowKit
set_option linter.unusedVariables false
set_option linter.unusedSimpArgs false

end

section
open Go Go.RowKit
set_option linter.unusedVariables false
set_option linter.unusedSimpArgs false

theorem Ans.of {l : List Int} {r r' : Value} (h : Ans l r) (e : r = r') : Ans l r' := e ▸ h
end

section
open Go Go.RowKit
set_option linter.unusedVariables false
set_option linter.unusedSimpArgs false

end

section
open Go Go.RowKit
set_option linter.unusedVariables false
set_option linter.unusedSimpArgs false

theorem fsize_ge2 (f : Int) (h : fok f = true) : 1 ≤ fsize f := by
  unfold fok at h
  simp only [Bool.and_eq_true, decide_eq_true_eq] at h
  have := fsize_pos ⟨f.toNat, by omega⟩
  have e : ((f.toNat : Nat) : Int) = f := by omega
  rw [e] at this
  exact this
theorem art_none {k p x q y f : Int} {m : Bool} {a b c d : Nat} (h : art k p x q y f m a b c d = true) : achk k p x q y f m = none := by
  unfold art at h
  cases hc : achk k p x q y f m with
  | none => rfl
  | some z => simp [hc] at h
theorem art_ownE {k p x q y f : Int} {m : Bool} {a b c d : Nat} (h : art k p x q y f m a b c d = true) : ownE k p x q y f m a b c d = true := by
  unfold art at h
  cases ho : ownE k p x q y f m a b c d
  · simp [ho] at h
  · rfl
theorem gen_ok {l : List Int} {N u : Nat} (k p x q y f : Int) (m : Bool) (a b c d : Nat) (h : art k p x q y f m a b c d = true) (hN : be2 l 2 = (N : Int)) (h8 : 8 ≤ N) (hm : N % 8 = 0) (hle : N ≤ l.length) (hu : u ≤ N) (hr : Reads (l.take N) N (okV k p x q y f m a b c d u)) (hz : nzB ((l.take N).drop u) = false) : Ans l (okV k p x q y f m a b c d N) :=
  (P_gen k p x q y f m a b c d hN h8 hm hle hu hr).of (by rw [if_neg (by rw [hz]; decide), art_none h])
theorem enc_d0 {p x q y f : Int} {m : Bool} {a b c d : Nat} (X : List Int) (h : art 0 p x q y f m a b c d = true) : Ans (aencL 0 p x q y f m a b c d ++ X) (okV 0 p x q y f m a b c d 16) ∧ (aencL 0 p x q y f m a b c d).length = 16 := by
  have ho := art_ownE h
  simp [ownE, oz] at ho
  obtain ⟨rfl, rfl, rfl, rfl, rfl, rfl, rfl, rfl⟩ := ho
  obtain ⟨h1, h2, h3, h4⟩ := art_0 h
  have e : aencL 0 p x 0 0 0 false 0 0 0 0 = [0, 0, 0, 16, p / 16777216, p / 65536 % 256, p / 256 % 256, p % 256, x / 256 % 256, x % 256, 0, 0, 0, 0, 0, 0] := by simp [aencL, bodyL, spl, r8, List.replicate]
  refine ⟨?_, by rw [e]; rfl⟩
  rw [e]
  refine gen_ok 0 p x 0 0 0 false 0 0 0 0 h (N := 16) (u := 10) (by simp [be2]) (by omega) (by omega) (by simp) (by omega) (fun ao cap w hB => ?_) (by simp [nzB])
  have := read_0 ao cap _ w hB (by simp [be2])
  have e1 : be4 (([0, 0, 0, 16, p / 16777216, p / 65536 % 256, p / 256 % 256, p % 256, x / 256 % 256, x % 256, 0, 0, 0, 0, 0, 0] ++ X).take 16) 4 = p := by simp [be4]; omega
  have e2 : be2 (([0, 0, 0, 16, p / 16777216, p / 65536 % 256, p / 256 % 256, p % 256, x / 256 % 256, x % 256, 0, 0, 0, 0, 0, 0] ++ X).take 16) 8 = x := by simp [be2]; omega
  rw [e1, e2] at this
  exact this
theorem enc_d22 {p x q y f : Int} {m : Bool} {a b c d : Nat} (X : List Int) (h : art 22 p x q y f m a b c d = true) : Ans (aencL 22 p x q y f m a b c d ++ X) (okV 22 p x q y f m a b c d 8) ∧ (aencL 22 p x q y f m a b c d).length = 8 := by
  have ho := art_ownE h
  simp [ownE, oz] at ho
  obtain ⟨rfl, rfl, rfl, rfl, rfl, rfl, rfl, rfl, rfl⟩ := ho
  obtain ⟨h1, h2⟩ := art_22 h
  have e : aencL 22 0 0 q 0 0 false 0 0 0 0 = [0, 22, 0, 8, q / 16777216, q / 65536 % 256, q / 256 % 256, q % 256] := by simp [aencL, bodyL, spl, r8]
  refine ⟨?_, by rw [e]; rfl⟩
  rw [e]
  refine gen_ok 22 0 0 q 0 0 false 0 0 0 0 h (N := 8) (u := 8) (by simp [be2]) (by omega) (by omega) (by simp) (by omega) (fun ao cap w hB => ?_) (by simp [nzB])
  have := read_22 ao cap _ w hB (by simp [be2])
  have e1 : be4 (([0, 22, 0, 8, q / 16777216, q / 65536 % 256, q / 256 % 256, q % 256] ++ X).take 8) 4 = q := by simp [be4]; omega
  rw [e1] at this
  exact this
theorem enc_d17 {p x q y f : Int} {m : Bool} {a b c d : Nat} (X : List Int) (h : art 17 p x q y f m a b c d = true) : Ans (aencL 17 p x q y f m a b c d ++ X) (okV 17 p x q y f m a b c d 8) ∧ (aencL 17 p x q y f m a b c d).length = 8 := by
  have ho := art_ownE h
  simp [ownE, oz] at ho
  obtain ⟨rfl, rfl, rfl, rfl, rfl, rfl, rfl, rfl, rfl⟩ := ho
  have h1 := art_17 h
  have e : aencL 17 0 0 0 y 0 false 0 0 0 0 = [0, 17, 0, 8, y / 256 % 256, y % 256, 0, 0] := by simp [aencL, bodyL, spl, r8, List.replicate]
  refine ⟨?_, by rw [e]; rfl⟩
  rw [e]
  refine gen_ok 17 0 0 0 y 0 false 0 0 0 0 h (N := 8) (u := 6) (by simp [be2]) (by omega) (by omega) (by simp) (by omega) (fun ao cap w hB => ?_) (by simp [nzB])
  have := read_17 ao cap _ w hB (by simp [be2])
  have e1 : be2 (([0, 17, 0, 8, y / 256 % 256, y % 256, 0, 0] ++ X).take 8) 4 = y := by simp [be2]; omega
  rw [e1] at this
  exact this
theorem enc_d18 {p x q y f : Int} {m : Bool} {a b c d : Nat} (X : List Int) (h : art 18 p x q y f m a b c d = true) : Ans (aencL 18 p x q y f m a b c d ++ X) (okV 18 p x q y f m a b c d 8) ∧ (aencL 18 p x q y f m a b c d).length = 8 := by
  have ho := art_ownE h
  simp [ownE, oz] at ho
  obtain ⟨rfl, rfl, rfl, rfl, rfl, rfl, rfl, rfl, rfl, rfl⟩ := ho
  have e : aencL 18 0 0 0 0 0 false 0 0 0 0 = [0, 18, 0, 8, 0, 0, 0, 0] := by simp [aencL, bodyL, spl, r8, List.replicate]
  refine ⟨?_, by rw [e]; rfl⟩
  rw [e]
  exact gen_ok 18 0 0 0 0 0 false 0 0 0 0 h (N := 8) (u := 4) (by simp [be2]) (by omega) (by omega) (by simp) (by omega) (fun ao cap w hB => read_18 ao cap _ w hB (by simp [be2])) (by simp [nzB])
theorem enc_d25 {p x q y f : Int} {m : Bool} {a b c d : Nat} (X : List Int) (ha : a < 18446744073709551616) (hb : b < 18446744073709551616) (hc : c < 18446744073709551616) (hd : d < 18446744073709551616) (h : art 25 p x q y f m a b c d = true) : ∃ N, Ans (aencL 25 p x q y f m a b c d ++ X) (okV 25 p x q y f m a b c d N) ∧ (aencL 25 p x q y f m a b c d).length = N ∧ N % 8 = 0 ∧ N ≤ 60 := by
  obtain ⟨hr, rfl, hs, rfl, rfl, rfl, rfl⟩ := art_25 h
  obtain ⟨nn, hnn⟩ : ∃ nn, (encL f false a b c d).length = nn := ⟨_, rfl⟩
  have hle := encL_le f false a b c d
  obtain ⟨N, hN⟩ : ∃ N, r8 (4 + nn) = N := ⟨_, rfl⟩
  have hN1 := r8_ge (4 + nn)
  have hN2 := r8_le (4 + nn)
  have hN3 : N % 8 = 0 := by rw [← hN]; unfold r8; omega
  have e : aencL 25 0 0 0 0 f false a b c d = [0, 25, (N : Int) / 256 % 256, (N : Int) % 256] ++ (encL f false a b c d ++ List.replicate (N - (4 + nn)) 0) := by
    unfold aencL bodyL
    simp only [hnn, hN, if_neg (by decide : ¬ (25 : Int) = 0), if_neg (by decide : ¬ (25 : Int) = 22), if_neg (by decide : ¬ (25 : Int) = 17), if_true]
    simp [spl]
  have hlen : (aencL 25 0 0 0 0 f false a b c d).length = N := by rw [e]; simp [hnn]; omega
  have hel : 4 < (encL f false a b c d).length := by
    have := fsize_ge2 f (rgt_fok hr)
    have h1 := fsize_le f
    have h2 : cl (fsize f : Int) 16 = fsize f := by unfold cl; omega
    simp only [encL, List.append_nil, List.length_append, spl_len2, spl_len1, wtail_length, h2]; omega
  refine ⟨N, ?_, hlen, hN3, by omega⟩
  have htk : (aencL 25 0 0 0 0 f false a b c d ++ X).take N = aencL 25 0 0 0 0 f false a b c d := by rw [← hlen]; exact List.take_left
  have hd4 : (aencL 25 0 0 0 0 f false a b c d).drop 4 = encL f false a b c d ++ List.replicate (N - (4 + nn)) 0 := by rw [e]; rfl
  have hdu : (aencL 25 0 0 0 0 f false a b c d).drop (4 + nn) = List.replicate (N - (4 + nn)) 0 := by
    rw [← List.drop_drop, hd4, ← hnn]; exact List.drop_left
  refine gen_ok 25 0 0 0 0 f false a b c d h (N := N) (u := 4 + nn) ?_ (by omega) hN3 (by rw [List.length_append, hlen]; omega) (by omega) (fun ao cap w hB => ?_) ?_
  · rw [e]; simp [be2]; omega
  · rw [htk] at hB
    refine read_25 ao N cap _ f false a b c d nn (4 + nn) w hB ?_ (by rw [hlen]; omega) ?_ (by omega) rfl hN.symm
    · rw [e]; simp [be2]
    · rw [hd4, dec_enc _ ha hb hc hd hr, hnn]
  · rw [htk, hdu]; simp [nzB]
theorem adec_enc {k p x q y f : Int} {m : Bool} {a b c d : Nat} (X : List Int) (ha : a < 18446744073709551616) (hb : b < 18446744073709551616) (hc : c < 18446744073709551616) (hd : d < 18446744073709551616) (h : art k p x q y f m a b c d = true) : ∃ N, Ans (aencL k p x q y f m a b c d ++ X) (okV k p x q y f m a b c d N) ∧ (aencL k p x q y f m a b c d).length = N ∧ N % 8 = 0 ∧ N ≤ 60 := by
  rcases art_kind h with rfl | rfl | rfl | rfl | rfl
  · exact ⟨16, (enc_d0 X h).1, (enc_d0 X h).2, by omega, by omega⟩
  · exact ⟨8, (enc_d22 X h).1, (enc_d22 X h).2, by omega, by omega⟩
  · exact ⟨8, (enc_d17 X h).1, (enc_d17 X h).2, by omega, by omega⟩
  · exact ⟨8, (enc_d18 X h).1, (enc_d18 X h).2, by omega, by omega⟩
  · exact enc_d25 X ha hb hc hd h
end

section
open Go Go.RowKit
set_option linter.unusedVariables false
set_option linter.unusedSimpArgs false

end

end Go.Proofs.YthamnlgjehlndaaGreat
