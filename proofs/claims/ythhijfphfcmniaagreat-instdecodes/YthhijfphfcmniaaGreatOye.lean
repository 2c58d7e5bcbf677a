import Derived.Test.YthhijfphfcmniaaGreatOme
import Derived.Test.YthhijfphfcmniaaGreatXhe
set_option maxRecDepth 100000
set_option maxHeartbeats 8000000
set_option linter.unusedVariables false
set_option linter.unusedSimpArgs false
namespace Go.Proofs.YthhijfphfcmniaaGreat
open Go Go.RowKit
theorem fok_nat {f : Int} (h : fok f = true) : ∃ j : Nat, f = (j : Int) ∧ j < 24 := by
  unfold fok at h
  simp only [Bool.and_eq_true, decide_eq_true_eq] at h
  exact ⟨f.toNat, by omega, by omega⟩
theorem fidx_back {j : Nat} (h : j < 24) : fidx (fid (j : Int)) = some j := by
  have key : ∀ j : Nat, j < 24 → fidx (fid (j : Int)) = some j := by decide +kernel
  exact key j h
theorem bits_size (f : Int) : fbits f ≤ 8 * fsize f := by unfold fsize; omega
theorem le_of_andn {a m : Nat} (ha : a < 18446744073709551616) (hm : m < 18446744073709551616) (h : andn a m = 0) : a ≤ m := by
  have e : a &&& m = a := by
    apply Nat.eq_of_testBit_eq
    intro i
    have := congrArg (fun n => Nat.testBit n i) h
    unfold andn at this
    rw [show 18446744073709551615 - m = 2 ^ 64 - (m + 1) by
      have : (2 : Nat) ^ 64 = 18446744073709551616 := by decide
      omega] at this
    simp only [Nat.testBit_and, Nat.zero_testBit, Nat.testBit_two_pow_sub_succ (show m < 2 ^ 64 by
      have : (2 : Nat) ^ 64 = 18446744073709551616 := by decide
      omega)] at this
    rw [Nat.testBit_and]
    by_cases hi : i < 64
    · revert this
      cases a.testBit i <;> cases m.testBit i <;> simp [hi]
    · have hz : a.testBit i = false := by
        apply Nat.testBit_lt_two_pow
        have h1 : (2 : Nat) ^ 64 ≤ 2 ^ i := Nat.pow_le_pow_right (by decide) (by omega)
        have h2 : (2 : Nat) ^ 64 = 18446744073709551616 := by decide
        omega
      rw [hz]; simp
  rw [← e]
  exact Nat.and_le_right
theorem wi_fits {f : Int} {a b : Nat} (ha : a < 18446744073709551616) (hb : b < 18446744073709551616) (h : wi a b (LH f) (LL f) = true) : a * 18446744073709551616 + b < 256 ^ fsize f := by
  unfold wi at h
  simp only [Bool.and_eq_true, beq_iff_eq] at h
  exact fits_lt (fbits f) (fsize f) a b (bits_size f) (le_of_andn ha (LH_lt f) h.1) (le_of_andn hb (LL_lt f) h.2)
theorem cl_size (f : Int) : cl (fsize f : Int) 16 = fsize f := by
  have := fsize_le f
  unfold cl; omega
theorem wtail_len (a b : Nat) (f : Int) : (wtail a b (fsize f : Int)).length = fsize f := by rw [wtail_length, cl_size]
theorem get_tail {f : Int} {a b : Nat} (X : List Int) (ha : a < 18446744073709551616) (hb : b < 18446744073709551616) (h : wi a b (LH f) (LL f) = true) : gx (wtail a b (fsize f : Int) ++ X) (fsize f : Int) = a ∧ gy (wtail a b (fsize f : Int) ++ X) (fsize f : Int) = b := by
  have e : gv (wtail a b (fsize f : Int) ++ X) (fsize f : Int) = a * 18446744073709551616 + b := by
    rw [gv_app _ X (fsize f) (fsize_le f) (wtail_len a b f)]
    unfold wtail
    rw [cl_size]
    exact bev_tail_h a b (fsize f) (fsize_le f) ha hb (wi_fits ha hb h)
  unfold gx gy
  rw [e]
  omega
theorem chk_val {f : Int} {m : Bool} {a b c d : Nat} (h : chk f m a b c d = 0) : wi a b (LH f) (LL f) = true := by
  cases hw : wi a b (LH f) (LL f)
  · unfold chk at h; rw [hw] at h; simp at h
  · rfl
theorem chk_mask {f : Int} {a b c d : Nat} (h : chk f true a b c d = 0) : wi c d (LH f) (LL f) = true := by
  have h1 := chk_val h
  cases hw : wi c d (LH f) (LL f)
  · unfold chk at h; rw [h1, hw] at h; simp at h
  · rfl
theorem rgt_parts {f : Int} {m : Bool} {a b c d : Nat} (h : rgt f m a b c d = true) : fok f = true ∧ chk f m a b c d = 0 ∧ (m = true → fmask f = true) ∧ (m = false → c = 0 ∧ d = 0) := by
  unfold rgt at h
  simp only [Bool.and_eq_true, decide_eq_true_eq] at h
  refine ⟨h.1, h.2.1, fun e => ?_, fun e => ?_⟩
  · subst e; exact h.2.2
  · subst e
    have := h.2.2
    unfold zz at this
    simpa using this
def mtail (f : Int) (m : Bool) (c d : Nat) : List Int := match m with | true => wtail c d (fsize f : Int) | false => []
theorem encL_cons (f : Int) (m : Bool) (a b c d : Nat) (X : List Int) (h : fok f = true) : encL f m a b c d ++ X = 128 :: 0 :: kind f m :: foll f m :: (wtail a b (fsize f : Int) ++ (mtail f m c d ++ X)) := by
  obtain ⟨h1, h2⟩ := fid_range f h
  have hs := fsize_le f
  have e1 : spl 32768 2 = [128, 0] := by decide
  have e2 : spl (kind f m) 1 = [kind f m] := by
    unfold spl
    have : kind f m % 256 = kind f m := by unfold kind; cases m <;> dsimp only <;> omega
    simp [this]
  have e3 : spl (foll f m) 1 = [foll f m] := by
    unfold spl
    have : foll f m % 256 = foll f m := by unfold foll; cases m <;> dsimp only <;> omega
    simp [this]
  unfold encL mtail
  rw [e1, e2, e3]
  cases m <;> simp
theorem dec_enc {f : Int} {m : Bool} {a b c d : Nat} (X : List Int) (ha : a < 18446744073709551616) (hb : b < 18446744073709551616) (hc : c < 18446744073709551616) (hd : d < 18446744073709551616) (h : rgt f m a b c d = true) :
    decV (encL f m a b c d ++ X) = .tuple #[ov f m a b c d, .int .i64 ((encL f m a b c d).length : Nat), fv false 0 0] := by
  obtain ⟨hf, hk, hm, hz⟩ := rgt_parts h
  obtain ⟨h1, h2⟩ := fid_range f hf
  obtain ⟨j, rfl, hj⟩ := fok_nat hf
  have hlen : ((encL (j : Int) m a b c d).length : Int) = 4 + foll (j : Int) m := by
    have := congrArg List.length (encL_cons (j : Int) m a b c d [] hf)
    rw [List.append_nil] at this
    rw [this]
    unfold foll mtail
    cases m
    · simp [wtail_len]; omega
    · simp [wtail_len]; omega
  have hv := chk_val hk
  have hH : headR (encL (j : Int) m a b c d ++ X) = (0, (j : Int), m) := by
    rw [encL_cons _ _ _ _ _ _ X hf]
    unfold headR
    dsimp only
    have hr : ¬ (((wtail a b (fsize (j : Int) : Int) ++ (mtail (j : Int) m c d ++ X)).length : Int) < foll (j : Int) m) := by
      unfold foll mtail
      cases m
      · simp [wtail_len]; omega
      · simp [wtail_len]; omega
    rw [if_neg hr]
    have hk2 : kind (j : Int) m / 2 = fid (j : Int) := by unfold kind; cases m <;> dsimp only <;> omega
    rw [hk2, fidx_back hj]
    dsimp only
    rw [if_pos (by decide)]
    have hmod : decide (kind (j : Int) m % 2 = 1) = m := by
      unfold kind
      cases m
      · simp
      · simp
    rw [hmod]
    have hmm : ¬ ((m && !(fmask (j : Int))) = true) := by
      cases m
      · simp
      · rw [hm rfl]; simp
    rw [if_neg hmm, if_pos rfl]
  have hB : bodyA ((encL (j : Int) m a b c d ++ X).drop 4) (j : Int) m = (a, b, c, d) := by
    rw [encL_cons _ _ _ _ _ _ X hf]
    simp only [List.drop_succ_cons, List.drop_zero]
    unfold bodyA
    obtain ⟨g1, g2⟩ := get_tail (mtail (j : Int) m c d ++ X) ha hb hv
    cases m
    · obtain ⟨rfl, rfl⟩ := hz rfl
      dsimp only at g1 g2 ⊢
      rw [g1, g2]
    · have hv2 := chk_mask hk
      obtain ⟨g3, g4⟩ := get_tail X hc hd hv2
      dsimp only at g1 g2 ⊢
      rw [g1, g2]
      unfold mtail
      dsimp only
      have hdrop : (wtail a b (fsize (j : Int) : Int) ++ (wtail c d (fsize (j : Int) : Int) ++ X)).drop (fsize (j : Int)) = wtail c d (fsize (j : Int) : Int) ++ X := by
        rw [List.drop_append_of_le_length (by rw [wtail_len]; omega), List.drop_of_length_le (by rw [wtail_len]; omega)]
        rfl
      rw [hdrop, g3, g4]
  unfold decV
  rw [hH]
  dsimp only
  rw [if_pos rfl, hB]
  dsimp only
  rw [if_pos hk, hlen]
theorem enc_dec {l : List Int} (hl : isB l) : (∃ k, ¬ k = 0 ∧ decV l = .tuple #[ov 0 false 0 0 0 0, .int .i64 0, fv true 4 k]) ∨
    ∃ f m a b c d, ∃ n : Nat, decV l = .tuple #[ov f m a b c d, .int .i64 (n : Int), fv false 0 0] ∧ rgt f m a b c d = true ∧ n ≤ l.length ∧ encL f m a b c d = l.take n ∧ a < 18446744073709551616 ∧ b < 18446744073709551616 ∧ c < 18446744073709551616 ∧ d < 18446744073709551616 := by
  unfold decV
  by_cases hk : (headR l).1 = 0
  · rw [if_pos hk]
    obtain ⟨f, m, hfm⟩ : ∃ f m, headR l = (0, f, m) := ⟨(headR l).2.1, (headR l).2.2, by rw [← hk]⟩
    rw [hfm]
    dsimp only
    obtain ⟨b0, b1, b2, b3, r, j, rfl, q1, q2, q3, rfl, q5, q6, q7⟩ := headR_ok hfm
    have e4 : (b0 :: b1 :: b2 :: b3 :: r).drop 4 = r := rfl
    rw [e4]
    have hr : isB r := fun z hz => hl z (by simp [hz])
    obtain ⟨ha, hb, hc, hd⟩ := bodyA_lt r (j : Int) m hr
    by_cases hc0 : chk (j : Int) m (bodyA r (j : Int) m).1 (bodyA r (j : Int) m).2.1 (bodyA r (j : Int) m).2.2.1 (bodyA r (j : Int) m).2.2.2 = 0
    · rw [if_pos hc0]
      right
      have hj := fidx_lt q3
      have hf : fok (j : Int) = true := by unfold fok; simp; omega
      have i0 := hl b0 (by simp)
      have i1 := hl b1 (by simp)
      have i2 := hl b2 (by simp)
      have hs16 := fsize_le (j : Int)
      have hfl : ∃ n : Nat, foll (j : Int) m = (n : Int) ∧ n ≤ r.length := ⟨(foll (j : Int) m).toNat, by unfold foll; cases m <;> dsimp only <;> omega, by
        have : foll (j : Int) m = b3 := q7.symm
        omega⟩
      obtain ⟨n, hn, hnr⟩ := hfl
      refine ⟨(j : Int), m, _, _, _, _, 4 + n, by rw [hn]; rfl, ?_, by simp; omega, ?_, ha, hb, hc, hd⟩
      · unfold rgt
        rw [hf, hc0]
        cases m
        · unfold bodyA zz; simp
        · rw [q6 rfl]; simp
      · have hec := encL_cons (j : Int) m (bodyA r (j : Int) m).1 (bodyA r (j : Int) m).2.1 (bodyA r (j : Int) m).2.2.1 (bodyA r (j : Int) m).2.2.2 [] hf
        rw [List.append_nil] at hec
        rw [hec]
        have eb0 : b0 = 128 := by omega
        have eb1 : b1 = 0 := by omega
        have ek : kind (j : Int) m = b2 := by
          unfold kind
          rw [q5]
          by_cases hm : b2 % 2 = 1
          · rw [decide_eq_true hm]; dsimp only; omega
          · rw [decide_eq_false hm]; dsimp only; omega
        have e3 : foll (j : Int) m = b3 := q7.symm
        unfold mtail
        rw [ek, e3, eb0, eb1, show 4 + n = n + 1 + 1 + 1 + 1 by omega]
        simp only [List.take_succ_cons, List.cons.injEq, true_and, List.append_nil]
        unfold bodyA
        have hnn : foll (j : Int) m = (n : Int) := hn
        unfold foll at hnn
        cases m
        · dsimp only at hnn ⊢
          have : n = fsize (j : Int) := by omega
          rw [this, List.append_nil]
          exact read_put r (fsize (j : Int)) hr hs16 (by omega)
        · dsimp only at hnn ⊢
          have : n = fsize (j : Int) + fsize (j : Int) := by omega
          rw [this, List.take_add]
          rw [read_put r (fsize (j : Int)) hr hs16 (by omega), read_put (r.drop (fsize (j : Int))) (fsize (j : Int)) (isB_drop hr _) hs16 (by simp; omega)]
    · rw [if_neg hc0]
      exact .inl ⟨_, hc0, rfl⟩
  · rw [if_neg hk]
    exact .inl ⟨_, hk, rfl⟩
end Go.Proofs.YthhijfphfcmniaaGreat
