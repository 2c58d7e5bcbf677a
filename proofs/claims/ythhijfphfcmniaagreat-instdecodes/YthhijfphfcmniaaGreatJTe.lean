import Derived.Test.YthhijfphfcmniaaGreatJPe
import Derived.Test.YthhijfphfcmniaaGreatAse
import Derived.Test.YthhijfphfcmniaaGreatAte
import Derived.Test.YthhijfphfcmniaaGreatAee
import Derived.Test.YthhijfphfcmniaaGreatAhe
import Derived.Test.YthhijfphfcmniaaGreatAke
import Derived.Test.YthhijfphfcmniaaGreatOye
import Derived.Test.YthhijfphfcmniaaGreatXhe
import Derived.Deep.RegionHeld3
import Derived.Deep.RegionWith
import Derived.Deep.MidRow
import Derived.Deep.Cut
set_option maxRecDepth 100000
set_option maxHeartbeats 8000000
set_option linter.unusedVariables false
set_option linter.unusedSimpArgs false
namespace Go.Proofs.YthhijfphfcmniaaGreat
section
open Go Go.RowKit
def badV (c : Int) : Value := .tuple #[.agg #[.int .i64 0, .int .i64 0, .int .i64 0, .int .i64 0, .int .i64 0, .int .i64 0, .bool false, .int .u64 0, .int .u64 0, .int .u64 0, .int .u64 0], .int .i64 0, .agg #[.bool true, .int .i64 2, .int .i64 c]]
def okV (k p x q y f : Int) (m : Bool) (a b c d : Nat) (n : Nat) : Value := .tuple #[.agg #[.int .i64 k, .int .i64 p, .int .i64 x, .int .i64 q, .int .i64 y, .int .i64 f, .bool m, .int .u64 (a : Int), .int .u64 (b : Int), .int .u64 (c : Int), .int .u64 (d : Int)], .int .i64 (n : Int), .agg #[.bool false, .int .i64 0, .int .i64 0]]
def Ans (l : List Int) (r : Value) : Prop := ∀ v w, Bytes w v l → (Calls Tryz.prog 124 #[v] w fun e w' => e = .returned r ∧ Below w.heap.size w w')
def RAns (l : List Int) (r : Value) : Prop := ∀ v w, Bytes w v l → (Calls Tryz.prog 125 #[v] w fun e w' => e = .returned r ∧ Below w.heap.size w w')
def Reads (l : List Int) (N : Nat) (r : Value) : Prop := ∀ ao cap w, Bytes w (.slice ao N cap) l → Calls Tryz.prog 143 #[.slice ao N cap] w fun e w' => e = .returned r ∧ Below w.heap.size w w'
theorem be2_take {l : List Int} {i N : Nat} (h : i + 2 ≤ N) (hN : N ≤ l.length) : be2 (l.take N) i = be2 l i := by
  have e1 : (l.take N).getD i 0 = l.getD i 0 := by simp [List.getD, List.getElem?_take, (by omega : i < N)]
  have e2 : (l.take N).getD (i + 1) 0 = l.getD (i + 1) 0 := by simp [List.getD, List.getElem?_take, (by omega : i + 1 < N)]
  unfold be2
  rw [e1, e2, if_pos (by simp; omega), if_pos (by omega)]
theorem be4_take {l : List Int} {i N : Nat} (h : i + 4 ≤ N) (hN : N ≤ l.length) : be4 (l.take N) i = be4 l i := by
  have e1 : (l.take N).getD i 0 = l.getD i 0 := by simp [List.getD, List.getElem?_take, (by omega : i < N)]
  have e2 : (l.take N).getD (i + 1) 0 = l.getD (i + 1) 0 := by simp [List.getD, List.getElem?_take, (by omega : i + 1 < N)]
  have e3 : (l.take N).getD (i + 2) 0 = l.getD (i + 2) 0 := by simp [List.getD, List.getElem?_take, (by omega : i + 2 < N)]
  have e4 : (l.take N).getD (i + 3) 0 = l.getD (i + 3) 0 := by simp [List.getD, List.getElem?_take, (by omega : i + 3 < N)]
  unfold be4
  rw [e1, e2, e3, e4, if_pos (by simp; omega), if_pos (by omega)]
theorem P_len {l : List Int} (h : ¬ (8 ≤ l.length ∧ 8 ≤ be2 l 2 ∧ be2 l 2 % 8 = 0 ∧ be2 l 2 ≤ l.length)) : Ans l (badV 1) := by
  intro v w hB
  obtain ⟨ao, cap, rfl, h1⟩ := hB
  have hB : Bytes w (.slice ao l.length cap) l := ⟨ao, cap, rfl, h1⟩
  refine dec_len _ 2 1 w (fun W hW => ?_)
  by_cases a1 : l.length < 8
  · exact rlen_a ao cap l W (hB.later hW) a1
  by_cases a2 : be2 l 2 < 8
  · exact rlen_b ao cap l W (hB.later hW) a1 a2
  by_cases a3 : be2 l 2 % 8 = 0
  · exact rlen_d ao cap l W (hB.later hW) a1 a2 a3 (by omega)
  · exact rlen_c ao cap l W (hB.later hW) a1 a2 a3
theorem P_lenR {l : List Int} (hl : isB l) (h : ¬ (8 ≤ l.length ∧ 8 ≤ be2 l 2 ∧ be2 l 2 % 8 = 0 ∧ be2 l 2 ≤ l.length)) : RAns l (badV 1) := by
  intro v w hB
  obtain ⟨ao, cap, rfl, h1⟩ := hB
  have hB : Bytes w (.slice ao l.length cap) l := ⟨ao, cap, rfl, h1⟩
  have hr := be2_range hl 2
  obtain ⟨N, hN⟩ : ∃ N : Nat, be2 l 2 = (N : Int) := ⟨(be2 l 2).toNat, by omega⟩
  by_cases a1 : l.length < 8
  · exact rd_short ao _ cap l w hB a1
  by_cases a2 : N < 8
  · exact rd_n1 ao _ cap l N w hB a1 hN a2
  by_cases a3 : N % 8 = 0
  · exact rd_n3 ao _ cap l N w hB a1 hN a2 a3 (by omega)
  · exact rd_n2 ao _ cap l N w hB a1 hN a2 a3
theorem rlen_ok {l : List Int} {N : Nat} (hN : be2 l 2 = (N : Int)) (h8 : 8 ≤ N) (hm : N % 8 = 0) (hle : N ≤ l.length) (ao : Option Addr) (cap : Nat) (W : World) (hB : Bytes W (.slice ao l.length cap) l) :
    Calls Tryz.prog 142 #[.slice ao l.length cap] W fun e w' => e = .returned (.tuple #[.int .i64 (N : Int), .agg #[.bool false, .int .i64 0, .int .i64 0]]) ∧ Below W.heap.size W w' := by
  have := rlen_e ao cap l W hB (by omega) (by omega) (by omega) (by omega)
  rw [hN] at this
  exact this
theorem P_bad {l : List Int} {N : Nat} (c : Int) (hN : be2 l 2 = (N : Int)) (h8 : 8 ≤ N) (hm : N % 8 = 0) (hle : N ≤ l.length) (hr : Reads (l.take N) N (badV c)) : Ans l (badV c) := by
  intro v w hB
  obtain ⟨ao, cap, rfl, h1⟩ := hB
  have hB : Bytes w (.slice ao l.length cap) l := ⟨ao, cap, rfl, h1⟩
  obtain ⟨-, s1, b1⟩ := bytes_take hB N hle
  exact dec_bad _ _ N 2 c w (fun W hW => rlen_ok hN h8 hm hle ao cap W (hB.later hW)) s1 (fun W hW => hr ao cap W (b1.later hW))
theorem P_gen {l : List Int} {N u : Nat} (k p x q y f : Int) (m : Bool) (a b c d : Nat) (hN : be2 l 2 = (N : Int)) (h8 : 8 ≤ N) (hm : N % 8 = 0) (hle : N ≤ l.length) (hu : u ≤ N) (hr : Reads (l.take N) N (okV k p x q y f m a b c d u)) :
    Ans l (if nzB ((l.take N).drop u) = true then badV 5 else match achk k p x q y f m with | some c => badV c | none => okV k p x q y f m a b c d N) := by
  intro v w hB
  obtain ⟨ao, cap, rfl, h1⟩ := hB
  have hB : Bytes w (.slice ao l.length cap) l := ⟨ao, cap, rfl, h1⟩
  obtain ⟨-, s1, b1⟩ := bytes_take hB N hle
  obtain ⟨ao2, s2, b2⟩ := bytes_mid hB u N hu hle
  have qL := fun W hW => rlen_ok hN h8 hm hle ao cap W (hB.later (w' := W) hW)
  have qR := fun W hW => hr ao cap W (b1.later (w' := W) hW)
  have qC := fun W hW => cont_any _ _ W (b2.later (w' := W) hW)
  have qK := fun w => achk_any k p x q y f m a b c d w
  cases hz : nzB ((l.take N).drop u)
  · rw [hz] at qC
    cases hc : achk k p x q y f m with
    | none =>
      rw [hc] at qK
      exact dec_ok _ _ _ N u k p x q y f m a b c d w qL s1 qR s2 qC qK
    | some c1 =>
      rw [hc] at qK
      exact dec_chk _ _ _ N u k p x q y f m a b c d 2 c1 w qL s1 qR s2 qC qK
  · rw [hz] at qC
    exact dec_nz _ _ _ N u k p x q y f m a b c d w qL s1 qR s2 qC
theorem expl8 {l : List Int} (h : 8 ≤ l.length) : ∃ b0 b1 b2 b3 b4 b5 b6 b7 r, l = b0 :: b1 :: b2 :: b3 :: b4 :: b5 :: b6 :: b7 :: r := by
  rcases l with _ | ⟨b0, l⟩
  · simp at h
  rcases l with _ | ⟨b1, l⟩
  · simp at h
  rcases l with _ | ⟨b2, l⟩
  · simp at h
  rcases l with _ | ⟨b3, l⟩
  · simp at h
  rcases l with _ | ⟨b4, l⟩
  · simp at h
  rcases l with _ | ⟨b5, l⟩
  · simp at h
  rcases l with _ | ⟨b6, l⟩
  · simp at h
  rcases l with _ | ⟨b7, l⟩
  · simp at h
  exact ⟨b0, b1, b2, b3, b4, b5, b6, b7, l, rfl⟩
theorem expl16 {l : List Int} (h : 16 ≤ l.length) : ∃ b0 b1 b2 b3 b4 b5 b6 b7 b8 b9 b10 b11 b12 b13 b14 b15 r, l = b0 :: b1 :: b2 :: b3 :: b4 :: b5 :: b6 :: b7 :: b8 :: b9 :: b10 :: b11 :: b12 :: b13 :: b14 :: b15 :: r := by
  rcases l with _ | ⟨b0, l⟩
  · simp at h
  rcases l with _ | ⟨b1, l⟩
  · simp at h
  rcases l with _ | ⟨b2, l⟩
  · simp at h
  rcases l with _ | ⟨b3, l⟩
  · simp at h
  rcases l with _ | ⟨b4, l⟩
  · simp at h
  rcases l with _ | ⟨b5, l⟩
  · simp at h
  rcases l with _ | ⟨b6, l⟩
  · simp at h
  rcases l with _ | ⟨b7, l⟩
  · simp at h
  rcases l with _ | ⟨b8, l⟩
  · simp at h
  rcases l with _ | ⟨b9, l⟩
  · simp at h
  rcases l with _ | ⟨b10, l⟩
  · simp at h
  rcases l with _ | ⟨b11, l⟩
  · simp at h
  rcases l with _ | ⟨b12, l⟩
  · simp at h
  rcases l with _ | ⟨b13, l⟩
  · simp at h
  rcases l with _ | ⟨b14, l⟩
  · simp at h
  rcases l with _ | ⟨b15, l⟩
  · simp at h
  exact ⟨b0, b1, b2, b3, b4, b5, b6, b7, b8, b9, b10, b11, b12, b13, b14, b15, l, rfl⟩
theorem enc_0 {l : List Int} (hl : isB l) (h : 16 ≤ l.length) (hk : be2 l 0 = 0) (hN : be2 l 2 = 16) (hz : nzB ((l.take 16).drop 10) = false) : aencL 0 (be4 l 4) (be2 l 8) 0 0 0 false 0 0 0 0 = l.take 16 := by
  obtain ⟨b0, b1, b2, b3, b4, b5, b6, b7, b8, b9, b10, b11, b12, b13, b14, b15, r, rfl⟩ := expl16 h
  have ib0 := hl b0 (by simp)
  have ib1 := hl b1 (by simp)
  have ib2 := hl b2 (by simp)
  have ib3 := hl b3 (by simp)
  have ib4 := hl b4 (by simp)
  have ib5 := hl b5 (by simp)
  have ib6 := hl b6 (by simp)
  have ib7 := hl b7 (by simp)
  have ib8 := hl b8 (by simp)
  have ib9 := hl b9 (by simp)
  have ib10 := hl b10 (by simp)
  have ib11 := hl b11 (by simp)
  have ib12 := hl b12 (by simp)
  have ib13 := hl b13 (by simp)
  have ib14 := hl b14 (by simp)
  have ib15 := hl b15 (by simp)
  clear hl h
  simp [be2, be4, nzB] at hk hN hz
  simp only [aencL, bodyL, be2, be4]
  simp [spl, r8, List.replicate]
  omega
theorem enc_22 {l : List Int} (hl : isB l) (h : 8 ≤ l.length) (hk : be2 l 0 = 22) (hN : be2 l 2 = 8) (hz : nzB ((l.take 8).drop 8) = false) : aencL 22 0 0 (be4 l 4) 0 0 false 0 0 0 0 = l.take 8 := by
  obtain ⟨b0, b1, b2, b3, b4, b5, b6, b7, r, rfl⟩ := expl8 h
  have ib0 := hl b0 (by simp)
  have ib1 := hl b1 (by simp)
  have ib2 := hl b2 (by simp)
  have ib3 := hl b3 (by simp)
  have ib4 := hl b4 (by simp)
  have ib5 := hl b5 (by simp)
  have ib6 := hl b6 (by simp)
  have ib7 := hl b7 (by simp)
  clear hl h
  simp [be2, be4, nzB] at hk hN hz
  simp only [aencL, bodyL, be2, be4]
  simp [spl, r8, List.replicate]
  omega
theorem enc_17 {l : List Int} (hl : isB l) (h : 8 ≤ l.length) (hk : be2 l 0 = 17) (hN : be2 l 2 = 8) (hz : nzB ((l.take 8).drop 6) = false) : aencL 17 0 0 0 (be2 l 4) 0 false 0 0 0 0 = l.take 8 := by
  obtain ⟨b0, b1, b2, b3, b4, b5, b6, b7, r, rfl⟩ := expl8 h
  have ib0 := hl b0 (by simp)
  have ib1 := hl b1 (by simp)
  have ib2 := hl b2 (by simp)
  have ib3 := hl b3 (by simp)
  have ib4 := hl b4 (by simp)
  have ib5 := hl b5 (by simp)
  have ib6 := hl b6 (by simp)
  have ib7 := hl b7 (by simp)
  clear hl h
  simp [be2, be4, nzB] at hk hN hz
  simp only [aencL, bodyL, be2, be4]
  simp [spl, r8, List.replicate]
  omega
theorem enc_18 {l : List Int} (hl : isB l) (h : 8 ≤ l.length) (hk : be2 l 0 = 18) (hN : be2 l 2 = 8) (hz : nzB ((l.take 8).drop 4) = false) : aencL 18 0 0 0 0 0 false 0 0 0 0 = l.take 8 := by
  obtain ⟨b0, b1, b2, b3, b4, b5, b6, b7, r, rfl⟩ := expl8 h
  have ib0 := hl b0 (by simp)
  have ib1 := hl b1 (by simp)
  have ib2 := hl b2 (by simp)
  have ib3 := hl b3 (by simp)
  have ib4 := hl b4 (by simp)
  have ib5 := hl b5 (by simp)
  have ib6 := hl b6 (by simp)
  have ib7 := hl b7 (by simp)
  clear hl h
  simp [be2, be4, nzB] at hk hN hz
  simp only [aencL, bodyL, be2, be4]
  simp [spl, r8, List.replicate]
  omega
theorem enc_25 {l : List Int} {N nn u : Nat} {f : Int} {a b c d : Nat} (hl : isB l) (hN : be2 l 2 = (N : Int)) (hk : be2 l 0 = 25) (h8 : 8 ≤ N) (hle : N ≤ l.length) (hu : 4 + nn = u) (hr : N = r8 u) (hle2 : nn ≤ ((l.take N).drop 4).length)
    (he : encL f false a b c d = ((l.take N).drop 4).take nn) (hz : nzB ((l.take N).drop u) = false) : aencL 25 0 0 0 0 f false a b c d = l.take N := by
  have hel : (encL f false a b c d).length = nn := by rw [he, List.length_take]; omega
  have e1 : aencL 25 0 0 0 0 f false a b c d = spl 25 2 ++ spl (N : Int) 2 ++ (encL f false a b c d ++ List.replicate (N - u) 0) := by
    unfold aencL bodyL
    simp only [hel, hu, ← hr, if_neg (by decide : ¬ (25 : Int) = 0), if_neg (by decide : ¬ (25 : Int) = 22), if_neg (by decide : ¬ (25 : Int) = 17), if_true]
  have e2 : (l.take N).drop u = List.replicate (N - u) 0 := by
    apply List.eq_replicate_iff.2
    refine ⟨by simp; omega, fun z hz1 => ?_⟩
    unfold nzB at hz
    rw [List.any_eq_false] at hz
    simpa using hz z hz1
  have e3 : l.take N = (l.take N).take 4 ++ (((l.take N).drop 4).take nn ++ (l.take N).drop u) := by
    rw [← hu, ← List.drop_drop, List.take_append_drop, List.take_append_drop]
  have e4 : (l.take N).take 4 = spl 25 2 ++ spl (N : Int) 2 := by
    rw [List.take_take, Nat.min_eq_left (by omega)]
    obtain ⟨b0, b1, b2, b3, b4, b5, b6, b7, r, rfl⟩ := expl8 (Nat.le_trans h8 hle)
    have i0 := hl b0 (by simp)
    have i1 := hl b1 (by simp)
    have i2 := hl b2 (by simp)
    have i3 := hl b3 (by simp)
    simp [be2] at hk hN
    simp [spl]
    omega
  rw [e1, e3, e4, he, e2]
def AllA (l : List Int) : Prop := (∃ c, Ans l (badV c) ∧ RAns l (badV c)) ∨
    ∃ (k p x q y f : Int) (m : Bool) (a b c d n : Nat), Ans l (okV k p x q y f m a b c d n) ∧ RAns l (okV k p x q y f m a b c d n) ∧ art k p x q y f m a b c d = true ∧ aencL k p x q y f m a b c d = l.take n ∧ n ≤ l.length ∧ a < 18446744073709551616 ∧ b < 18446744073709551616 ∧ c < 18446744073709551616 ∧ d < 18446744073709551616
theorem Ans.of {l : List Int} {r r' : Value} (h : Ans l r) (e : r = r') : Ans l r' := e ▸ h
theorem all_0 {l : List Int} {N : Nat} (hl : isB l) (hN : be2 l 2 = (N : Int)) (h8 : 8 ≤ N) (hm : N % 8 = 0) (hle : N ≤ l.length) (hk : be2 l 0 = 0) : AllA l := by
  by_cases h16 : N = 16
  · subst h16
    have hN' : be2 l 2 = 16 := hN
    have e0 : be2 (l.take 16) 0 = 0 := by rw [be2_take (by omega) hle]; exact hk
    have e4 := be4_take (l := l) (i := 4) (N := 16) (by omega) hle
    have e8 := be2_take (l := l) (i := 8) (N := 16) (by omega) hle
    have hr : Reads (l.take 16) 16 (okV 0 (be4 l 4) (be2 l 8) 0 0 0 false 0 0 0 0 10) := fun ao cap w hB => by
      have := read_0 ao cap (l.take 16) w hB e0
      rw [e4, e8] at this
      exact this
    have PG := P_gen 0 (be4 l 4) (be2 l 8) 0 0 0 false 0 0 0 0 hN h8 hm hle (by omega) hr
    have hz := be4_range hl 4
    have hx := be2_range hl 8
    have zz : ∀ v w, Bytes w v l → ∃ ao ln cap, v = .slice ao ln cap := fun v w ⟨ao, cap, e, _⟩ => ⟨ao, _, cap, e⟩
    cases hnz : nzB ((l.take 16).drop 10)
    · have rZ : ∀ w ao ln cap, Bytes w (.slice ao ln cap) l → ∃ v2, (∀ wx, (Instr.slice 25 (.slice ao ln cap) (some (.int .i64 10)) (some (.int .i64 16)) none).run Tryz.prog wx = .ok v2 wx) ∧ (∀ W, Below w.heap.size w W → Calls Tryz.prog 150 #[v2] W fun e w' => e = .returned (.bool true) ∧ Below W.heap.size W w') := by
        intro w ao ln cap hB
        obtain ⟨ao2, s2, b2⟩ := bytes_mid hB 10 16 (by omega) hle
        refine ⟨_, s2, fun W hW => ?_⟩
        have := nought_any _ _ W (b2.later hW)
        rw [hnz] at this
        exact this
      cases hg : goB (be4 l 4)
      · refine .inl ⟨4, PG.of (by simp [hnz, achk, hg]), fun v w hB => ?_⟩
        obtain ⟨ao, ln, cap, rfl⟩ := zz v w hB
        have hln := (Bytes.at hB).1
        obtain ⟨v2, s2, q2⟩ := rZ w ao ln cap hB
        exact rd_0g ao ln cap l v2 _ _ w hB (by omega) hN' hk (by omega) s2 q2 rfl rfl hg
      · cases ht : tkB (be4 l 4) (be2 l 8)
        · refine .inl ⟨5, PG.of (by simp [hnz, achk, hg, ht]), fun v w hB => ?_⟩
          obtain ⟨ao, ln, cap, rfl⟩ := zz v w hB
          have hln := (Bytes.at hB).1
          obtain ⟨v2, s2, q2⟩ := rZ w ao ln cap hB
          exact rd_0r ao ln cap l v2 _ _ w hB (by omega) hN' hk (by omega) s2 q2 rfl rfl hg (by simp [art, achk, hg, ht])
        · have hart : art 0 (be4 l 4) (be2 l 8) 0 0 0 false 0 0 0 0 = true := by simp [art, achk, ownE, oz, hg, ht]
          refine .inr ⟨0, be4 l 4, be2 l 8, 0, 0, 0, false, 0, 0, 0, 0, 16, PG.of (by simp [hnz, achk, hg, ht]), fun v w hB => ?_, hart, enc_0 hl hle hk hN' hnz, hle, by decide, by decide, by decide, by decide⟩
          obtain ⟨ao, ln, cap, rfl⟩ := zz v w hB
          have hln := (Bytes.at hB).1
          obtain ⟨v2, s2, q2⟩ := rZ w ao ln cap hB
          exact rd_0 ao ln cap l v2 _ _ w hB (by omega) hN' hk (by omega) s2 q2 rfl rfl hg hart
    · refine .inl ⟨5, PG.of (by simp [hnz]), fun v w hB => ?_⟩
      obtain ⟨ao, ln, cap, rfl⟩ := zz v w hB
      have hln := (Bytes.at hB).1
      obtain ⟨ao2, s2, b2⟩ := bytes_mid hB 10 16 (by omega) hle
      refine rd_0z ao ln cap l _ w hB (by omega) hN' hk (by omega) s2 (fun W hW => ?_)
      have := nought_any _ _ W (b2.later hW)
      rw [hnz] at this
      exact this
  · refine .inl ⟨1, P_bad 1 hN h8 hm hle (fun ao cap w hB => read_0b ao N cap (l.take N) w hB (by rw [be2_take (by omega) hle]; exact hk) h16), fun v w hB => ?_⟩
    obtain ⟨ao, cap, rfl, h1⟩ := hB
    exact rd_0n ao _ cap l N w ⟨ao, cap, rfl, h1⟩ (by omega) hN hk (by omega) hm hle h16
theorem zz_form {l : List Int} : ∀ v w, Bytes w v l → ∃ ao ln cap, v = .slice ao ln cap := fun v w ⟨ao, cap, e, _⟩ => ⟨ao, _, cap, e⟩
theorem all_22 {l : List Int} {N : Nat} (hl : isB l) (hN : be2 l 2 = (N : Int)) (h8 : 8 ≤ N) (hm : N % 8 = 0) (hle : N ≤ l.length) (hk : be2 l 0 = 22) : AllA l := by
  by_cases h16 : N = 8
  · subst h16
    have hN' : be2 l 2 = 8 := hN
    have e0 : be2 (l.take 8) 0 = 22 := by rw [be2_take (by omega) hle]; exact hk
    have e4 := be4_take (l := l) (i := 4) (N := 8) (by omega) hle
    have hr : Reads (l.take 8) 8 (okV 22 0 0 (be4 l 4) 0 0 false 0 0 0 0 8) := fun ao cap w hB => by
      have := read_22 ao cap (l.take 8) w hB e0
      rw [e4] at this
      exact this
    have PG := P_gen 22 0 0 (be4 l 4) 0 0 false 0 0 0 0 hN h8 hm hle (by omega) hr
    have hnz : nzB ((l.take 8).drop 8) = false := by
      have : (l.take 8).drop 8 = [] := by simp
      rw [this]; rfl
    have hz := be4_range hl 4
    by_cases hg : be4 l 4 ≤ 4294967040
    · have hart : art 22 0 0 (be4 l 4) 0 0 false 0 0 0 0 = true := by simp [art, achk, ownE, oz, hg, hz.1]
      refine .inr ⟨22, 0, 0, be4 l 4, 0, 0, false, 0, 0, 0, 0, 8, PG.of (by rw [hnz]; simp [achk, hg, hz.1]), fun v w hB => ?_, hart, enc_22 hl hle hk hN' hnz, hle, by decide, by decide, by decide, by decide⟩
      obtain ⟨ao, ln, cap, rfl⟩ := zz_form v w hB
      have hln := (Bytes.at hB).1
      exact rd_22 ao ln cap l _ w hB (by omega) hN' hk (by omega) rfl (by omega) hart
    · refine .inl ⟨9, PG.of (by rw [hnz]; simp [achk, hg, hz.1]), fun v w hB => ?_⟩
      obtain ⟨ao, ln, cap, rfl⟩ := zz_form v w hB
      have hln := (Bytes.at hB).1
      exact rd_22g ao ln cap l _ w hB (by omega) hN' hk (by omega) rfl (by omega)
  · refine .inl ⟨1, P_bad 1 hN h8 hm hle (fun ao cap w hB => read_22b ao N cap (l.take N) w hB (by rw [be2_take (by omega) hle]; exact hk) h16), fun v w hB => ?_⟩
    obtain ⟨ao, cap, rfl, h1⟩ := hB
    exact rd_22n ao _ cap l N w ⟨ao, cap, rfl, h1⟩ (by omega) hN hk (by omega) hm hle h16
theorem rZ {l : List Int} {s N : Nat} (hs : s ≤ N) (hle : N ≤ l.length) {z : Bool} (hnz : nzB ((l.take N).drop s) = z) (w : World) (ao : Option Addr) (ln cap : Nat) (hB : Bytes w (.slice ao ln cap) l) : ∃ v2, (∀ wx, (Instr.slice 25 (.slice ao ln cap) (some (.int .i64 (s : Int))) (some (.int .i64 (N : Int))) none).run Tryz.prog wx = .ok v2 wx) ∧ (∀ W, Below w.heap.size w W → Calls Tryz.prog 150 #[v2] W fun e w' => e = .returned (.bool (!z)) ∧ Below W.heap.size W w') := by
  obtain ⟨ao2, s2, b2⟩ := bytes_mid hB s N hs hle
  refine ⟨_, s2, fun W hW => ?_⟩
  have := nought_any _ _ W (b2.later hW)
  rw [hnz] at this
  exact this
theorem all_17 {l : List Int} {N : Nat} (hl : isB l) (hN : be2 l 2 = (N : Int)) (h8 : 8 ≤ N) (hm : N % 8 = 0) (hle : N ≤ l.length) (hk : be2 l 0 = 17) : AllA l := by
  by_cases h16 : N = 8
  · subst h16
    have hN' : be2 l 2 = 8 := hN
    have e0 : be2 (l.take 8) 0 = 17 := by rw [be2_take (by omega) hle]; exact hk
    have e4 := be2_take (l := l) (i := 4) (N := 8) (by omega) hle
    have hr : Reads (l.take 8) 8 (okV 17 0 0 0 (be2 l 4) 0 false 0 0 0 0 6) := fun ao cap w hB => by
      have := read_17 ao cap (l.take 8) w hB e0
      rw [e4] at this
      exact this
    have PG := P_gen 17 0 0 0 (be2 l 4) 0 false 0 0 0 0 hN h8 hm hle (by omega) hr
    cases hnz : nzB ((l.take 8).drop 6)
    · by_cases hg : (decide (be2 l 4 = 33024) || decide (be2 l 4 = 34984)) = true
      · have hart : art 17 0 0 0 (be2 l 4) 0 false 0 0 0 0 = true := by simp at hg; rcases hg with h | h <;> simp [art, achk, ownE, oz, h]
        refine .inr ⟨17, 0, 0, 0, be2 l 4, 0, false, 0, 0, 0, 0, 8, PG.of (by simp only [hnz, achk]; simp at hg; simp [hg]), fun v w hB => ?_, hart, enc_17 hl hle hk hN' hnz, hle, by decide, by decide, by decide, by decide⟩
        obtain ⟨ao, ln, cap, rfl⟩ := zz_form v w hB
        have hln := (Bytes.at hB).1
        obtain ⟨v2, s2, q2⟩ := rZ (by omega) hle hnz w ao ln cap hB
        exact rd_17 ao ln cap l v2 _ w hB (by omega) hN' hk (by omega) s2 q2 rfl hart
      · have hart : art 17 0 0 0 (be2 l 4) 0 false 0 0 0 0 = false := by simp at hg; simp [art, achk, hg.1, hg.2]
        refine .inl ⟨5, PG.of (by simp at hg; simp [hnz, achk, hg.1, hg.2]), fun v w hB => ?_⟩
        obtain ⟨ao, ln, cap, rfl⟩ := zz_form v w hB
        have hln := (Bytes.at hB).1
        obtain ⟨v2, s2, q2⟩ := rZ (by omega) hle hnz w ao ln cap hB
        exact rd_17r ao ln cap l v2 _ w hB (by omega) hN' hk (by omega) s2 q2 rfl hart
    · refine .inl ⟨5, PG.of (by simp [hnz]), fun v w hB => ?_⟩
      obtain ⟨ao, ln, cap, rfl⟩ := zz_form v w hB
      have hln := (Bytes.at hB).1
      obtain ⟨v2, s2, q2⟩ := rZ (by omega) hle hnz w ao ln cap hB
      exact rd_17z ao ln cap l v2 w hB (by omega) hN' hk (by omega) s2 q2
  · refine .inl ⟨1, P_bad 1 hN h8 hm hle (fun ao cap w hB => read_17b ao N cap (l.take N) w hB (by rw [be2_take (by omega) hle]; exact hk) h16), fun v w hB => ?_⟩
    obtain ⟨ao, cap, rfl, h1⟩ := hB
    exact rd_17n ao _ cap l N w ⟨ao, cap, rfl, h1⟩ (by omega) hN hk (by omega) hm hle h16
theorem all_18 {l : List Int} {N : Nat} (hl : isB l) (hN : be2 l 2 = (N : Int)) (h8 : 8 ≤ N) (hm : N % 8 = 0) (hle : N ≤ l.length) (hk : be2 l 0 = 18) : AllA l := by
  by_cases h16 : N = 8
  · subst h16
    have hN' : be2 l 2 = 8 := hN
    have e0 : be2 (l.take 8) 0 = 18 := by rw [be2_take (by omega) hle]; exact hk
    have hr : Reads (l.take 8) 8 (okV 18 0 0 0 0 0 false 0 0 0 0 4) := fun ao cap w hB => read_18 ao cap (l.take 8) w hB e0
    have PG := P_gen 18 0 0 0 0 0 false 0 0 0 0 hN h8 hm hle (by omega) hr
    cases hnz : nzB ((l.take 8).drop 4)
    · have hart : art 18 0 0 0 0 0 false 0 0 0 0 = true := by simp [art, achk, ownE, oz]
      refine .inr ⟨18, 0, 0, 0, 0, 0, false, 0, 0, 0, 0, 8, PG.of (by simp [hnz, achk]), fun v w hB => ?_, hart, enc_18 hl hle hk hN' hnz, hle, by decide, by decide, by decide, by decide⟩
      obtain ⟨ao, ln, cap, rfl⟩ := zz_form v w hB
      have hln := (Bytes.at hB).1
      obtain ⟨v2, s2, q2⟩ := rZ (by omega) hle hnz w ao ln cap hB
      exact rd_18 ao ln cap l v2 w hB (by omega) hN' hk (by omega) s2 q2 hart
    · refine .inl ⟨5, PG.of (by simp [hnz]), fun v w hB => ?_⟩
      obtain ⟨ao, ln, cap, rfl⟩ := zz_form v w hB
      have hln := (Bytes.at hB).1
      obtain ⟨v2, s2, q2⟩ := rZ (by omega) hle hnz w ao ln cap hB
      exact rd_18z ao ln cap l v2 w hB (by omega) hN' hk (by omega) s2 q2
  · refine .inl ⟨1, P_bad 1 hN h8 hm hle (fun ao cap w hB => read_18b ao N cap (l.take N) w hB (by rw [be2_take (by omega) hle]; exact hk) h16), fun v w hB => ?_⟩
    obtain ⟨ao, cap, rfl, h1⟩ := hB
    exact rd_18n ao _ cap l N w ⟨ao, cap, rfl, h1⟩ (by omega) hN hk (by omega) hm hle h16
theorem all_z {l : List Int} {N : Nat} (hl : isB l) (hN : be2 l 2 = (N : Int)) (h8 : 8 ≤ N) (hm : N % 8 = 0) (hle : N ≤ l.length) (k : Int) (hk : be2 l 0 = k) (h0 : k ≠ 0) (h22 : k ≠ 22) (h17 : k ≠ 17) (h18 : k ≠ 18) (h25 : k ≠ 25) : AllA l := by
  refine .inl ⟨0, P_bad 0 hN h8 hm hle (fun ao cap w hB => read_z ao N k cap (l.take N) w hB (by rw [be2_take (by omega) hle]; exact hk) h0 h22 h17 h18 h25), fun v w hB => ?_⟩
  obtain ⟨ao, cap, rfl, h1⟩ := hB
  exact rd_unk ao _ cap l N k w ⟨ao, cap, rfl, h1⟩ (by omega) hN hk (by omega) hm hle h0 h22 h17 h18 h25
def SAns (l : List Int) (N : Nat) (r : Value) : Prop := ∀ ao cap w, Bytes w (.slice ao N cap) l → Calls Tryz.prog 149 #[.slice ao N cap] w fun e w' => e = .returned r ∧ Below w.heap.size w w'
theorem setR_bad {l : List Int} {N : Nat} (hl : isB l) (hN : be2 l 2 = (N : Int)) (h8 : 8 ≤ N) (hm : N % 8 = 0) (hle : N ≤ l.length) (hk : be2 l 0 = 25) (c : Int) (hs : SAns (l.take N) N (badV c)) : RAns l (badV c) := by
  intro v w hB
  obtain ⟨ao, cap, rfl, h1⟩ := hB
  have hB : Bytes w (.slice ao l.length cap) l := ⟨ao, cap, rfl, h1⟩
  obtain ⟨-, s1, b1⟩ := bytes_take hB N hle
  exact rd_set ao _ cap l N _ 0 0 0 0 0 0 false 0 0 0 0 0 2 c true w hB (by omega) hN hk (by omega) hm hle s1 (fun W hW => hs ao cap W (b1.later hW))
theorem setR_ok {l : List Int} {N : Nat} (hl : isB l) (hN : be2 l 2 = (N : Int)) (h8 : 8 ≤ N) (hm : N % 8 = 0) (hle : N ≤ l.length) (hk : be2 l 0 = 25) (k p x q y f : Int) (m : Bool) (a b c d : Nat) (hs : SAns (l.take N) N (okV k p x q y f m a b c d N)) : RAns l (okV k p x q y f m a b c d N) := by
  intro v w hB
  obtain ⟨ao, cap, rfl, h1⟩ := hB
  have hB : Bytes w (.slice ao l.length cap) l := ⟨ao, cap, rfl, h1⟩
  obtain ⟨-, s1, b1⟩ := bytes_take hB N hle
  exact rd_set ao _ cap l N _ k p x q y f m a b c d N 0 0 false w hB (by omega) hN hk (by omega) hm hle s1 (fun W hW => hs ao cap W (b1.later hW))
theorem rU {l : List Int} {u : Nat} (hle : u ≤ l.length) {z : Bool} (hnz : nzB (l.drop u) = z) (w : World) (ao : Option Addr) (ln cap : Nat) (hB : Bytes w (.slice ao ln cap) l) : ∃ v2, (∀ wx, (Instr.slice 25 (.slice ao ln cap) (some (.int .i64 (u : Int))) none none).run Tryz.prog wx = .ok v2 wx) ∧ (∀ W, Below w.heap.size w W → Calls Tryz.prog 150 #[v2] W fun e w' => e = .returned (.bool (!z)) ∧ Below W.heap.size W w') := by
  obtain ⟨ao2, -, s2, b2⟩ := bytes_slice hB u hle
  refine ⟨_, s2, fun W hW => ?_⟩
  have := nought_any _ _ W (b2.later hW)
  rw [hnz] at this
  exact this
theorem all_25 {l : List Int} {N : Nat} (hl : isB l) (hN : be2 l 2 = (N : Int)) (h8 : 8 ≤ N) (hm : N % 8 = 0) (hle : N ≤ l.length) (hk : be2 l 0 = 25) : AllA l := by
  have hk' : be2 (l.take N) 0 = 25 := by rw [be2_take (by omega) hle]; exact hk
  have hl' : isB (l.take N) := fun z hz => hl z (List.mem_of_mem_take hz)
  have hlen : (l.take N).length = N := by simp; omega
  have h4 : 4 ≤ (l.take N).length := by omega
  rcases enc_dec (l := (l.take N).drop 4) (fun z hz => hl' z (List.mem_of_mem_drop hz)) with ⟨kf, hkf, hd⟩ | ⟨f, m, a, b, c, d, nn, hd, hrg, hnl, he, ha, hb, hc, hd4⟩
  · by_cases k1 : kf = 1
    · subst k1
      exact .inl ⟨14, P_bad 14 hN h8 hm hle (fun ao cap w hB => read_25f ao N cap (l.take N) 1 14 w hB hk' h4 hd (fun w => rset_1 w)), setR_bad hl hN h8 hm hle hk 14 (fun ao cap w hB => st_f1 ao N cap (l.take N) w hB h4 hd)⟩
    · by_cases k6 : kf = 6
      · subst k6
        exact .inl ⟨13, P_bad 13 hN h8 hm hle (fun ao cap w hB => read_25f ao N cap (l.take N) 6 13 w hB hk' h4 hd (fun w => rset_6 w)), setR_bad hl hN h8 hm hle hk 13 (fun ao cap w hB => st_f6 ao N cap (l.take N) w hB h4 hd)⟩
      · exact .inl ⟨15, P_bad 15 hN h8 hm hle (fun ao cap w hB => read_25f ao N cap (l.take N) kf 15 w hB hk' h4 hd (fun w => rset_z kf w k1 k6)), setR_bad hl hN h8 hm hle hk 15 (fun ao cap w hB => st_fz ao N cap (l.take N) kf w hB h4 hd k1 k6)⟩
  · have hel : (encL f m a b c d).length = nn := by rw [he, List.length_take]; omega
    have hnn : nn ≤ 1000 := by have := encL_le f m a b c d; omega
    have hnl' : nn ≤ N - 4 := by rw [List.length_drop, hlen] at hnl; exact hnl
    by_cases hn : N = r8 (4 + nn)
    · have PG := P_gen 25 0 0 0 0 f m a b c d hN h8 hm hle (u := 4 + nn) (by omega) (fun ao cap w hB => read_25 ao N cap (l.take N) f m a b c d nn (4 + nn) w hB hk' h4 hd hnn rfl hn)
      have hu : 4 + nn ≤ (l.take N).length := by omega
      cases hnz : nzB ((l.take N).drop (4 + nn))
      · rw [hnz] at PG
        cases hset : setsB f
        · refine .inl ⟨13, PG.of (by simp [achk, hset]), setR_bad hl hN h8 hm hle hk 13 (fun ao cap w hB => ?_)⟩
          obtain ⟨v2, s2, q2⟩ := rU hu hnz w ao N cap hB
          exact st_s ao N cap (l.take N) v2 f m a b c d nn (4 + nn) w hB h4 hd hnn rfl hn s2 q2 hset
        · cases m
          · have hart : art 25 0 0 0 0 f false a b c d = true := by simp [art, achk, ownE, hset, hrg]
            refine .inr ⟨25, 0, 0, 0, 0, f, false, a, b, c, d, N, PG.of (by simp [achk, hset]), setR_ok hl hN h8 hm hle hk 25 0 0 0 0 f false a b c d (fun ao cap w hB => ?_), hart, enc_25 hl hN hk h8 hle rfl hn hnl he hnz, hle, ha, hb, hc, hd4⟩
            obtain ⟨v2, s2, q2⟩ := rU hu hnz w ao N cap hB
            exact st_ok ao N cap (l.take N) v2 f a b c d nn (4 + nn) w hB h4 hd hnn rfl hn s2 q2 hset
          · refine .inl ⟨15, PG.of (by simp [achk, hset]), setR_bad hl hN h8 hm hle hk 15 (fun ao cap w hB => ?_)⟩
            obtain ⟨v2, s2, q2⟩ := rU hu hnz w ao N cap hB
            exact st_m ao N cap (l.take N) v2 f a b c d nn (4 + nn) w hB h4 hd hnn rfl hn s2 q2 hset
      · rw [hnz] at PG
        refine .inl ⟨5, PG, setR_bad hl hN h8 hm hle hk 5 (fun ao cap w hB => ?_)⟩
        obtain ⟨v2, s2, q2⟩ := rU hu hnz w ao N cap hB
        exact st_z ao N cap (l.take N) v2 f m a b c d nn (4 + nn) w hB h4 hd hnn rfl hn s2 q2
    · exact .inl ⟨1, P_bad 1 hN h8 hm hle (fun ao cap w hB => read_25b ao N cap (l.take N) f m a b c d nn (4 + nn) w hB hk' h4 hd hnn rfl hn), setR_bad hl hN h8 hm hle hk 1 (fun ao cap w hB => st_n ao N cap (l.take N) f m a b c d nn (4 + nn) w hB h4 hd hnn rfl hn)⟩
theorem adec_all {l : List Int} (hl : isB l) : AllA l := by
  by_cases h : 8 ≤ l.length ∧ 8 ≤ be2 l 2 ∧ be2 l 2 % 8 = 0 ∧ be2 l 2 ≤ l.length
  · obtain ⟨h1, h2, h3, h4⟩ := h
    obtain ⟨N, hN⟩ : ∃ N : Nat, be2 l 2 = (N : Int) := ⟨(be2 l 2).toNat, by omega⟩
    have a1 : 8 ≤ N := by omega
    have a2 : N % 8 = 0 := by omega
    have a3 : N ≤ l.length := by omega
    by_cases k0 : be2 l 0 = 0
    · exact all_0 hl hN a1 a2 a3 k0
    by_cases k22 : be2 l 0 = 22
    · exact all_22 hl hN a1 a2 a3 k22
    by_cases k17 : be2 l 0 = 17
    · exact all_17 hl hN a1 a2 a3 k17
    by_cases k18 : be2 l 0 = 18
    · exact all_18 hl hN a1 a2 a3 k18
    by_cases k25 : be2 l 0 = 25
    · exact all_25 hl hN a1 a2 a3 k25
    · exact all_z hl hN a1 a2 a3 _ rfl k0 k22 k17 k18 k25
  · exact .inl ⟨1, P_len h, P_lenR hl h⟩
theorem fsize_ge2 (f : Int) (h : fok f = true) : 1 ≤ fsize f := by
  unfold fok at h
  simp only [Bool.and_eq_true, decide_eq_true_eq] at h
  have := fsize_pos ⟨f.toNat, by omega⟩
  have e : ((f.toNat : Nat) : Int) = f := by omega
  rw [e] at this
  exact this
theorem art_none {k p x q y f : Int} {m : Bool} {a b c d : Nat} (h : art k p x q y f m a b c d = true) : achk k p x q y f m = none := by
  unfold art at h
  cases hc : achk k p x q y f m with
  | none => rfl
  | some z => simp [hc] at h
theorem art_ownE {k p x q y f : Int} {m : Bool} {a b c d : Nat} (h : art k p x q y f m a b c d = true) : ownE k p x q y f m a b c d = true := by
  unfold art at h
  cases ho : ownE k p x q y f m a b c d
  · simp [ho] at h
  · rfl
theorem gen_ok {l : List Int} {N u : Nat} (k p x q y f : Int) (m : Bool) (a b c d : Nat) (h : art k p x q y f m a b c d = true) (hN : be2 l 2 = (N : Int)) (h8 : 8 ≤ N) (hm : N % 8 = 0) (hle : N ≤ l.length) (hu : u ≤ N) (hr : Reads (l.take N) N (okV k p x q y f m a b c d u)) (hz : nzB ((l.take N).drop u) = false) : Ans l (okV k p x q y f m a b c d N) :=
  (P_gen k p x q y f m a b c d hN h8 hm hle hu hr).of (by rw [if_neg (by rw [hz]; decide), art_none h])
theorem enc_d0 {p x q y f : Int} {m : Bool} {a b c d : Nat} (X : List Int) (h : art 0 p x q y f m a b c d = true) : Ans (aencL 0 p x q y f m a b c d ++ X) (okV 0 p x q y f m a b c d 16) ∧ (aencL 0 p x q y f m a b c d).length = 16 := by
  have ho := art_ownE h
  simp [ownE, oz] at ho
  obtain ⟨rfl, rfl, rfl, rfl, rfl, rfl, rfl, rfl⟩ := ho
  obtain ⟨h1, h2, h3, h4⟩ := art_0 h
  have e : aencL 0 p x 0 0 0 false 0 0 0 0 = [0, 0, 0, 16, p / 16777216, p / 65536 % 256, p / 256 % 256, p % 256, x / 256 % 256, x % 256, 0, 0, 0, 0, 0, 0] := by simp [aencL, bodyL, spl, r8, List.replicate]
  refine ⟨?_, by rw [e]; rfl⟩
  rw [e]
  refine gen_ok 0 p x 0 0 0 false 0 0 0 0 h (N := 16) (u := 10) (by simp [be2]) (by omega) (by omega) (by simp) (by omega) (fun ao cap w hB => ?_) (by simp [nzB])
  have := read_0 ao cap _ w hB (by simp [be2])
  have e1 : be4 (([0, 0, 0, 16, p / 16777216, p / 65536 % 256, p / 256 % 256, p % 256, x / 256 % 256, x % 256, 0, 0, 0, 0, 0, 0] ++ X).take 16) 4 = p := by simp [be4]; omega
  have e2 : be2 (([0, 0, 0, 16, p / 16777216, p / 65536 % 256, p / 256 % 256, p % 256, x / 256 % 256, x % 256, 0, 0, 0, 0, 0, 0] ++ X).take 16) 8 = x := by simp [be2]; omega
  rw [e1, e2] at this
  exact this
theorem enc_d22 {p x q y f : Int} {m : Bool} {a b c d : Nat} (X : List Int) (h : art 22 p x q y f m a b c d = true) : Ans (aencL 22 p x q y f m a b c d ++ X) (okV 22 p x q y f m a b c d 8) ∧ (aencL 22 p x q y f m a b c d).length = 8 := by
  have ho := art_ownE h
  simp [ownE, oz] at ho
  obtain ⟨rfl, rfl, rfl, rfl, rfl, rfl, rfl, rfl, rfl⟩ := ho
  obtain ⟨h1, h2⟩ := art_22 h
  have e : aencL 22 0 0 q 0 0 false 0 0 0 0 = [0, 22, 0, 8, q / 16777216, q / 65536 % 256, q / 256 % 256, q % 256] := by simp [aencL, bodyL, spl, r8]
  refine ⟨?_, by rw [e]; rfl⟩
  rw [e]
  refine gen_ok 22 0 0 q 0 0 false 0 0 0 0 h (N := 8) (u := 8) (by simp [be2]) (by omega) (by omega) (by simp) (by omega) (fun ao cap w hB => ?_) (by simp [nzB])
  have := read_22 ao cap _ w hB (by simp [be2])
  have e1 : be4 (([0, 22, 0, 8, q / 16777216, q / 65536 % 256, q / 256 % 256, q % 256] ++ X).take 8) 4 = q := by simp [be4]; omega
  rw [e1] at this
  exact this
theorem enc_d17 {p x q y f : Int} {m : Bool} {a b c d : Nat} (X : List Int) (h : art 17 p x q y f m a b c d = true) : Ans (aencL 17 p x q y f m a b c d ++ X) (okV 17 p x q y f m a b c d 8) ∧ (aencL 17 p x q y f m a b c d).length = 8 := by
  have ho := art_ownE h
  simp [ownE, oz] at ho
  obtain ⟨rfl, rfl, rfl, rfl, rfl, rfl, rfl, rfl, rfl⟩ := ho
  have h1 := art_17 h
  have e : aencL 17 0 0 0 y 0 false 0 0 0 0 = [0, 17, 0, 8, y / 256 % 256, y % 256, 0, 0] := by simp [aencL, bodyL, spl, r8, List.replicate]
  refine ⟨?_, by rw [e]; rfl⟩
  rw [e]
  refine gen_ok 17 0 0 0 y 0 false 0 0 0 0 h (N := 8) (u := 6) (by simp [be2]) (by omega) (by omega) (by simp) (by omega) (fun ao cap w hB => ?_) (by simp [nzB])
  have := read_17 ao cap _ w hB (by simp [be2])
  have e1 : be2 (([0, 17, 0, 8, y / 256 % 256, y % 256, 0, 0] ++ X).take 8) 4 = y := by simp [be2]; omega
  rw [e1] at this
  exact this
theorem enc_d18 {p x q y f : Int} {m : Bool} {a b c d : Nat} (X : List Int) (h : art 18 p x q y f m a b c d = true) : Ans (aencL 18 p x q y f m a b c d ++ X) (okV 18 p x q y f m a b c d 8) ∧ (aencL 18 p x q y f m a b c d).length = 8 := by
  have ho := art_ownE h
  simp [ownE, oz] at ho
  obtain ⟨rfl, rfl, rfl, rfl, rfl, rfl, rfl, rfl, rfl, rfl⟩ := ho
  have e : aencL 18 0 0 0 0 0 false 0 0 0 0 = [0, 18, 0, 8, 0, 0, 0, 0] := by simp [aencL, bodyL, spl, r8, List.replicate]
  refine ⟨?_, by rw [e]; rfl⟩
  rw [e]
  exact gen_ok 18 0 0 0 0 0 false 0 0 0 0 h (N := 8) (u := 4) (by simp [be2]) (by omega) (by omega) (by simp) (by omega) (fun ao cap w hB => read_18 ao cap _ w hB (by simp [be2])) (by simp [nzB])
theorem enc_d25 {p x q y f : Int} {m : Bool} {a b c d : Nat} (X : List Int) (ha : a < 18446744073709551616) (hb : b < 18446744073709551616) (hc : c < 18446744073709551616) (hd : d < 18446744073709551616) (h : art 25 p x q y f m a b c d = true) : ∃ N, Ans (aencL 25 p x q y f m a b c d ++ X) (okV 25 p x q y f m a b c d N) ∧ (aencL 25 p x q y f m a b c d).length = N ∧ N % 8 = 0 ∧ N ≤ 60 := by
  obtain ⟨hr, rfl, hs, rfl, rfl, rfl, rfl⟩ := art_25 h
  obtain ⟨nn, hnn⟩ : ∃ nn, (encL f false a b c d).length = nn := ⟨_, rfl⟩
  have hle := encL_le f false a b c d
  obtain ⟨N, hN⟩ : ∃ N, r8 (4 + nn) = N := ⟨_, rfl⟩
  have hN1 := r8_ge (4 + nn)
  have hN2 := r8_le (4 + nn)
  have hN3 : N % 8 = 0 := by rw [← hN]; unfold r8; omega
  have e : aencL 25 0 0 0 0 f false a b c d = [0, 25, (N : Int) / 256 % 256, (N : Int) % 256] ++ (encL f false a b c d ++ List.replicate (N - (4 + nn)) 0) := by
    unfold aencL bodyL
    simp only [hnn, hN, if_neg (by decide : ¬ (25 : Int) = 0), if_neg (by decide : ¬ (25 : Int) = 22), if_neg (by decide : ¬ (25 : Int) = 17), if_true]
    simp [spl]
  have hlen : (aencL 25 0 0 0 0 f false a b c d).length = N := by rw [e]; simp [hnn]; omega
  have hel : 4 < (encL f false a b c d).length := by
    have := fsize_ge2 f (rgt_fok hr)
    have h1 := fsize_le f
    have h2 : cl (fsize f : Int) 16 = fsize f := by unfold cl; omega
    simp only [encL, List.append_nil, List.length_append, spl_len2, spl_len1, wtail_length, h2]; omega
  refine ⟨N, ?_, hlen, hN3, by omega⟩
  have htk : (aencL 25 0 0 0 0 f false a b c d ++ X).take N = aencL 25 0 0 0 0 f false a b c d := by rw [← hlen]; exact List.take_left
  have hd4 : (aencL 25 0 0 0 0 f false a b c d).drop 4 = encL f false a b c d ++ List.replicate (N - (4 + nn)) 0 := by rw [e]; rfl
  have hdu : (aencL 25 0 0 0 0 f false a b c d).drop (4 + nn) = List.replicate (N - (4 + nn)) 0 := by
    rw [← List.drop_drop, hd4, ← hnn]; exact List.drop_left
  refine gen_ok 25 0 0 0 0 f false a b c d h (N := N) (u := 4 + nn) ?_ (by omega) hN3 (by rw [List.length_append, hlen]; omega) (by omega) (fun ao cap w hB => ?_) ?_
  · rw [e]; simp [be2]; omega
  · rw [htk] at hB
    refine read_25 ao N cap _ f false a b c d nn (4 + nn) w hB ?_ (by rw [hlen]; omega) ?_ (by omega) rfl hN.symm
    · rw [e]; simp [be2]
    · rw [hd4, dec_enc _ ha hb hc hd hr, hnn]
  · rw [htk, hdu]; simp [nzB]
theorem adec_enc {k p x q y f : Int} {m : Bool} {a b c d : Nat} (X : List Int) (ha : a < 18446744073709551616) (hb : b < 18446744073709551616) (hc : c < 18446744073709551616) (hd : d < 18446744073709551616) (h : art k p x q y f m a b c d = true) : ∃ N, Ans (aencL k p x q y f m a b c d ++ X) (okV k p x q y f m a b c d N) ∧ (aencL k p x q y f m a b c d).length = N ∧ N % 8 = 0 ∧ N ≤ 60 := by
  rcases art_kind h with rfl | rfl | rfl | rfl | rfl
  · exact ⟨16, (enc_d0 X h).1, (enc_d0 X h).2, by omega, by omega⟩
  · exact ⟨8, (enc_d22 X h).1, (enc_d22 X h).2, by omega, by omega⟩
  · exact ⟨8, (enc_d17 X h).1, (enc_d17 X h).2, by omega, by omega⟩
  · exact ⟨8, (enc_d18 X h).1, (enc_d18 X h).2, by omega, by omega⟩
  · exact enc_d25 X ha hb hc hd h
theorem aencL_isB {k p x q y f : Int} {m : Bool} {a b c d : Nat} (ha : a < 18446744073709551616) (hb : b < 18446744073709551616) (hc : c < 18446744073709551616) (hd : d < 18446744073709551616) (h : art k p x q y f m a b c d = true) : isB (aencL k p x q y f m a b c d) := by
  have hb1 : isB (bodyL k p x q y f m a b c d) := by
    rcases art_kind h with rfl | rfl | rfl | rfl | rfl
    · obtain ⟨h1, h2, h3, h4⟩ := art_0 h
      exact (isB_spl4 (by omega) (by omega)).app (isB_spl2 x)
    · obtain ⟨h1, h2⟩ := art_22 h
      exact isB_spl4 h1 (by omega)
    · exact isB_spl2 y
    · exact fun z hz => by simp [bodyL] at hz
    · obtain ⟨h1, -⟩ := art_25 h
      exact (encL_ok ha hb hc hd h1).2
  exact ((isB_spl2 k).app (isB_spl2 _)).app (hb1.app (isB_zeros _))
end
end Go.Proofs.YthhijfphfcmniaaGreat
