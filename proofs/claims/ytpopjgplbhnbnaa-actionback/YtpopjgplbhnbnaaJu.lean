import Derived.Test.YtpopjgplbhnbnaaJn
import Derived.Test.YtpopjgplbhnbnaaJf
import Derived.Test.YtpopjgplbhnbnaaXi
import Derived.Deep.RegionHeld3
import Derived.Deep.RegionWith
import Derived.Deep.MidRow
import Derived.Deep.Cut
import Derived.Test.YtpopjgplbhnbnaaJr
import Derived.Test.YtpopjgplbhnbnaaJs
namespace Go.Proofs.Ytpopjgplbhnbnaa
section
open Go Go.RowKit
set_option linter.unusedVariables false
set_option linter.unusedSimpArgs false

theorem fsize_ge2 (f : Int) (h : fok f = true) : 1 ≤ fsize f := by
  unfold fok at h
  simp only [Bool.and_eq_true, decide_eq_true_eq] at h
  have := fsize_pos ⟨f.toNat, by omega⟩
  have e : ((f.toNat : Nat) : Int) = f := by omega
  rw [e] at this
  exact this
theorem art_none {k p x q y f : Int} {m : Bool} {a b c d : Nat} (h : art k p x q y f m a b c d = true) : achk k p x q y f m = none := by
  unfold art at h
  cases hc : achk k p x q y f m with
  | none => rfl
  | some z => simp [hc] at h
theorem art_ownE {k p x q y f : Int} {m : Bool} {a b c d : Nat} (h : art k p x q y f m a b c d = true) : ownE k p x q y f m a b c d = true := by
  unfold art at h
  cases ho : ownE k p x q y f m a b c d
  · simp [ho] at h
  · rfl
theorem gen_ok {l : List Int} {N u : Nat} (k p x q y f : Int) (m : Bool) (a b c d : Nat) (h : art k p x q y f m a b c d = true) (hN : be2 l 2 = (N : Int)) (h8 : 8 ≤ N) (hm : N % 8 = 0) (hle : N ≤ l.length) (hu : u ≤ N) (hr : Reads (l.take N) N (okV k p x q y f m a b c d u)) (hz : nzB ((l.take N).drop u) = false) : Ans l (okV k p x q y f m a b c d N) :=
  (P_gen k p x q y f m a b c d hN h8 hm hle hu hr).of (by rw [if_neg (by rw [hz]; decide), art_none h])
theorem enc_d0 {p x q y f : Int} {m : Bool} {a b c d : Nat} (X : List Int) (h : art 0 p x q y f m a b c d = true) : Ans (aencL 0 p x q y f m a b c d ++ X) (okV 0 p x q y f m a b c d 16) ∧ (aencL 0 p x q y f m a b c d).length = 16 := by
  have ho := art_ownE h
  simp [ownE, oz] at ho
  obtain ⟨rfl, rfl, rfl, rfl, rfl, rfl, rfl, rfl⟩ := ho
  obtain ⟨h1, h2, h3, h4⟩ := art_0 h
  have e : aencL 0 p x 0 0 0 false 0 0 0 0 = [0, 0, 0, 16, p / 16777216, p / 65536 % 256, p / 256 % 256, p % 256, x / 256 % 256, x % 256, 0, 0, 0, 0, 0, 0] := by simp [aencL, bodyL, spl, r8, List.replicate]
  refine ⟨?_, by rw [e]; rfl⟩
  rw [e]
  refine gen_ok 0 p x 0 0 0 false 0 0 0 0 h (N := 16) (u := 10) (by simp [be2]) (by omega) (by omega) (by simp) (by omega) (fun ao cap w hB => ?_) (by simp [nzB])
  have := read_0 ao cap _ w hB (by simp [be2])
  have e1 : be4 (([0, 0, 0, 16, p / 16777216, p / 65536 % 256, p / 256 % 256, p % 256, x / 256 % 256, x % 256, 0, 0, 0, 0, 0, 0] ++ X).take 16) 4 = p := by simp [be4]; omega
  have e2 : be2 (([0, 0, 0, 16, p / 16777216, p / 65536 % 256, p / 256 % 256, p % 256, x / 256 % 256, x % 256, 0, 0, 0, 0, 0, 0] ++ X).take 16) 8 = x := by simp [be2]; omega
  rw [e1, e2] at this
  exact this
theorem enc_d22 {p x q y f : Int} {m : Bool} {a b c d : Nat} (X : List Int) (h : art 22 p x q y f m a b c d = true) : Ans (aencL 22 p x q y f m a b c d ++ X) (okV 22 p x q y f m a b c d 8) ∧ (aencL 22 p x q y f m a b c d).length = 8 := by
  have ho := art_ownE h
  simp [ownE, oz] at ho
  obtain ⟨rfl, rfl, rfl, rfl, rfl, rfl, rfl, rfl, rfl⟩ := ho
  obtain ⟨h1, h2⟩ := art_22 h
  have e : aencL 22 0 0 q 0 0 false 0 0 0 0 = [0, 22, 0, 8, q / 16777216, q / 65536 % 256, q / 256 % 256, q % 256] := by simp [aencL, bodyL, spl, r8]
  refine ⟨?_, by rw [e]; rfl⟩
  rw [e]
  refine gen_ok 22 0 0 q 0 0 false 0 0 0 0 h (N := 8) (u := 8) (by simp [be2]) (by omega) (by omega) (by simp) (by omega) (fun ao cap w hB => ?_) (by simp [nzB])
  have := read_22 ao cap _ w hB (by simp [be2])
  have e1 : be4 (([0, 22, 0, 8, q / 16777216, q / 65536 % 256, q / 256 % 256, q % 256] ++ X).take 8) 4 = q := by simp [be4]; omega
  rw [e1] at this
  exact this
theorem enc_d17 {p x q y f : Int} {m : Bool} {a b c d : Nat} (X : List Int) (h : art 17 p x q y f m a b c d = true) : Ans (aencL 17 p x q y f m a b c d ++ X) (okV 17 p x q y f m a b c d 8) ∧ (aencL 17 p x q y f m a b c d).length = 8 := by
  have ho := art_ownE h
  simp [ownE, oz] at ho
  obtain ⟨rfl, rfl, rfl, rfl, rfl, rfl, rfl, rfl, rfl⟩ := ho
  have h1 := art_17 h
  have e : aencL 17 0 0 0 y 0 false 0 0 0 0 = [0, 17, 0, 8, y / 256 % 256, y % 256, 0, 0] := by simp [aencL, bodyL, spl, r8, List.replicate]
  refine ⟨?_, by rw [e]; rfl⟩
  rw [e]
  refine gen_ok 17 0 0 0 y 0 false 0 0 0 0 h (N := 8) (u := 6) (by simp [be2]) (by omega) (by omega) (by simp) (by omega) (fun ao cap w hB => ?_) (by simp [nzB])
  have := read_17 ao cap _ w hB (by simp [be2])
  have e1 : be2 (([0, 17, 0, 8, y / 256 % 256, y % 256, 0, 0] ++ X).take 8) 4 = y := by simp [be2]; omega
  rw [e1] at this
  exact this
theorem enc_d18 {p x q y f : Int} {m : Bool} {a b c d : Nat} (X : List Int) (h : art 18 p x q y f m a b c d = true) : Ans (aencL 18 p x q y f m a b c d ++ X) (okV 18 p x q y f m a b c d 8) ∧ (aencL 18 p x q y f m a b c d).length = 8 := by
  have ho := art_ownE h
  simp [ownE, oz] at ho
  obtain ⟨rfl, rfl, rfl, rfl, rfl, rfl, rfl, rfl, rfl, rfl⟩ := ho
  have e : aencL 18 0 0 0 0 0 false 0 0 0 0 = [0, 18, 0, 8, 0, 0, 0, 0] := by simp [aencL, bodyL, spl, r8, List.replicate]
  refine ⟨?_, by rw [e]; rfl⟩
  rw [e]
  exact gen_ok 18 0 0 0 0 0 false 0 0 0 0 h (N := 8) (u := 4) (by simp [be2]) (by omega) (by omega) (by simp) (by omega) (fun ao cap w hB => read_18 ao cap _ w hB (by simp [be2])) (by simp [nzB])
theorem enc_d25 {p x q y f : Int} {m : Bool} {a b c d : Nat} (X : List Int) (ha : a < 18446744073709551616) (hb : b < 18446744073709551616) (hc : c < 18446744073709551616) (hd : d < 18446744073709551616) (h : art 25 p x q y f m a b c d = true) : ∃ N, Ans (aencL 25 p x q y f m a b c d ++ X) (okV 25 p x q y f m a b c d N) ∧ (aencL 25 p x q y f m a b c d).length = N ∧ N % 8 = 0 ∧ N ≤ 60 := by
  obtain ⟨hr, rfl, hs, rfl, rfl, rfl, rfl⟩ := art_25 h
  obtain ⟨nn, hnn⟩ : ∃ nn, (encL f false a b c d).length = nn := ⟨_, rfl⟩
  have hle := encL_le f false a b c d
  obtain ⟨N, hN⟩ : ∃ N, r8 (4 + nn) = N := ⟨_, rfl⟩
  have hN1 := r8_ge (4 + nn)
  have hN2 := r8_le (4 + nn)
  have hN3 : N % 8 = 0 := by rw [← hN]; unfold r8; omega
  have e : aencL 25 0 0 0 0 f false a b c d = [0, 25, (N : Int) / 256 % 256, (N : Int) % 256] ++ (encL f false a b c d ++ List.replicate (N - (4 + nn)) 0) := by
    unfold aencL bodyL
    simp only [hnn, hN, if_neg (by decide : ¬ (25 : Int) = 0), if_neg (by decide : ¬ (25 : Int) = 22), if_neg (by decide : ¬ (25 : Int) = 17), if_true]
    simp [spl]
  have hlen : (aencL 25 0 0 0 0 f false a b c d).length = N := by rw [e]; simp [hnn]; omega
  have hel : 4 < (encL f false a b c d).length := by
    have := fsize_ge2 f (rgt_fok hr)
    have h1 := fsize_le f
    have h2 : cl (fsize f : Int) 16 = fsize f := by unfold cl; omega
    simp only [encL, List.append_nil, List.length_append, spl_len2, spl_len1, wtail_length, h2]; omega
  refine ⟨N, ?_, hlen, hN3, by omega⟩
  have htk : (aencL 25 0 0 0 0 f false a b c d ++ X).take N = aencL 25 0 0 0 0 f false a b c d := by rw [← hlen]; exact List.take_left
  have hd4 : (aencL 25 0 0 0 0 f false a b c d).drop 4 = encL f false a b c d ++ List.replicate (N - (4 + nn)) 0 := by rw [e]; rfl
  have hdu : (aencL 25 0 0 0 0 f false a b c d).drop (4 + nn) = List.replicate (N - (4 + nn)) 0 := by
    rw [← List.drop_drop, hd4, ← hnn]; exact List.drop_left
  refine gen_ok 25 0 0 0 0 f false a b c d h (N := N) (u := 4 + nn) ?_ (by omega) hN3 (by rw [List.length_append, hlen]; omega) (by omega) (fun ao cap w hB => ?_) ?_
  · rw [e]; simp [be2]; omega
  · rw [htk] at hB
    refine read_25 ao N cap _ f false a b c d nn (4 + nn) w hB ?_ (by rw [hlen]; omega) ?_ (by omega) rfl hN.symm
    · rw [e]; simp [be2]
    · rw [hd4, dec_enc _ ha hb hc hd hr, hnn]
  · rw [htk, hdu]; simp [nzB]
theorem adec_enc {k p x q y f : Int} {m : Bool} {a b c d : Nat} (X : List Int) (ha : a < 18446744073709551616) (hb : b < 18446744073709551616) (hc : c < 18446744073709551616) (hd : d < 18446744073709551616) (h : art k p x q y f m a b c d = true) : ∃ N, Ans (aencL k p x q y f m a b c d ++ X) (okV k p x q y f m a b c d N) ∧ (aencL k p x q y f m a b c d).length = N ∧ N % 8 = 0 ∧ N ≤ 60 := by
  rcases art_kind h with rfl | rfl | rfl | rfl | rfl
  · exact ⟨16, (enc_d0 X h).1, (enc_d0 X h).2, by omega, by omega⟩
  · exact ⟨8, (enc_d22 X h).1, (enc_d22 X h).2, by omega, by omega⟩
  · exact ⟨8, (enc_d17 X h).1, (enc_d17 X h).2, by omega, by omega⟩
  · exact ⟨8, (enc_d18 X h).1, (enc_d18 X h).2, by omega, by omega⟩
  · exact enc_d25 X ha hb hc hd h
end

section
open Go Go.RowKit
set_option linter.unusedVariables false
set_option linter.unusedSimpArgs false

theorem aencL_isB {k p x q y f : Int} {m : Bool} {a b c d : Nat} (ha : a < 18446744073709551616) (hb : b < 18446744073709551616) (hc : c < 18446744073709551616) (hd : d < 18446744073709551616) (h : art k p x q y f m a b c d = true) : isB (aencL k p x q y f m a b c d) := by
  have hb1 : isB (bodyL k p x q y f m a b c d) := by
    rcases art_kind h with rfl | rfl | rfl | rfl | rfl
    · obtain ⟨h1, h2, h3, h4⟩ := art_0 h
      exact (isB_spl4 (by omega) (by omega)).app (isB_spl2 x)
    · obtain ⟨h1, h2⟩ := art_22 h
      exact isB_spl4 h1 (by omega)
    · exact isB_spl2 y
    · exact fun z hz => by simp [bodyL] at hz
    · obtain ⟨h1, -⟩ := art_25 h
      exact (encL_ok ha hb hc hd h1).2
  exact ((isB_spl2 k).app (isB_spl2 _)).app (hb1.app (isB_zeros _))
theorem actionBack_walk (kA pA xA qA yA fA : Int) (mA : Bool) (aA bA cA dA : Nat) (v : Value) (l : List Int) (w : World) (ha : aA < 18446744073709551616) (hb : bA < 18446744073709551616) (hc : cA < 18446744073709551616) (hd : dA < 18446744073709551616) (hB : Bytes w v l) :
    Calls Try.prog 5 #[av kA pA xA qA yA fA mA aA bA cA dA, v] w fun e w' => e = .returned (.bool true) ∧ Below w.heap.size w w' := by
  have hiB := hB.isB_
  obtain ⟨ao, cap, rfl, h1⟩ := hB
  have hB : Bytes w (.slice ao l.length cap) l := ⟨ao, cap, rfl, h1⟩
  unfold av
  cases hr : art kA pA xA qA yA fA mA aA bA cA dA
  · have q1 := fun w => aenc_no kA pA xA qA yA fA mA aA bA cA dA w ha hb hc hd hr
    rcases adec_all hiB with ⟨c, han, -⟩ | ⟨k, p, x, q, y, f, m, a, b, c, d, n, han, -, hart, henc, hn, g1, g2, g3, g4⟩
    · exact aback_no_fault kA pA xA qA yA fA mA aA bA cA dA ao cap l w hB q1 2 c (fun W hW => han _ W (hB.later hW))
    · refine aback_no_ok kA pA xA qA yA fA mA aA bA cA dA ao cap l w hB q1 k p x q y f m a b c d n hn (fun W hW => han _ W (hB.later hW)) (fun w => ?_)
      have := aenc_yes k p x q y f m a b c d w g1 g2 g3 g4 hart
      rw [henc] at this
      exact this
  · have q1 := fun w => aenc_yes kA pA xA qA yA fA mA aA bA cA dA w ha hb hc hd hr
    obtain ⟨n8, gm, hn8, h8⟩ : ∃ n8 : Nat, (if (8 : Int) < (l.length : Int) then (8 : Int) else (l.length : Int)) = (n8 : Int) ∧ n8 ≤ l.length ∧ n8 ≤ 8 := by
      by_cases h : 8 < l.length
      · exact ⟨8, by rw [if_pos (by omega)]; rfl, by omega, by omega⟩
      · exact ⟨l.length, by rw [if_neg (by omega)], by omega, by omega⟩
    obtain ⟨N, hdn, hlen, hmod, h60⟩ := adec_enc (l.take n8) ha hb hc hd hr
    have hLB : isB (aencL kA pA xA qA yA fA mA aA bA cA dA) := aencL_isB ha hb hc hd hr
    have hm8 : (aencL kA pA xA qA yA fA mA aA bA cA dA).length % 8 = 0 := by rw [hlen]; exact hmod
    have hLl : (aencL kA pA xA qA yA fA mA aA bA cA dA).length ≤ 1000 := by rw [hlen]; omega
    have qd1 := fun v W h => hdn v W h
    unfold okV at qd1
    rw [← hlen] at qd1
    rcases adec_all hiB with ⟨c, han, -⟩ | ⟨k, p, x, q, y, f, m, a, b, c, d, n, han, -, hart, henc, hn, g1, g2, g3, g4⟩
    · exact aback_yes kA pA xA qA yA fA mA aA bA cA dA ao cap l _ n8 w hB gm hn8 h8 hLl hLB hm8 q1 qd1 (.inl ⟨2, c, fun W hW => han _ W (hB.later hW)⟩)
    · refine aback_yes kA pA xA qA yA fA mA aA bA cA dA ao cap l _ n8 w hB gm hn8 h8 hLl hLB hm8 q1 qd1 (.inr ⟨k, p, x, q, y, f, m, a, b, c, d, n, hn, (fun W hW => han _ W (hB.later hW)), (fun w => ?_)⟩)
      have := aenc_yes k p x q y f m a b c d w g1 g2 g3 g4 hart
      rw [henc] at this
      exact this
end

end Go.Proofs.Ytpopjgplbhnbnaa
