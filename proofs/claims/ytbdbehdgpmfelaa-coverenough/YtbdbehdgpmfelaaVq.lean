import Derived.Test.YtbdbehdgpmfelaaVp
namespace Go.Proofs.Ytbdbehdgpmfelaa
open Go Go.RowKit
set_option linter.unusedVariables false
set_option linter.unusedSimpArgs false

theorem fall_cnt (x y : Nat) : ∀ k, (fall (hasb x y) k).length = cnt x y k
  | 0 => rfl
  | k + 1 => by
    rw [fall, cnt, ← fall_cnt x y k]
    split <;> simp_all
theorem cnt_mono (a b c d : Nat) (hc : c < 18446744073709551616) (hd : d < 18446744073709551616) : ∀ k, k ≤ 128 → cnt (andn a c) (andn b d) k ≤ cnt a b k
  | 0, _ => Nat.le_refl _
  | k + 1, h => by
    have ih := cnt_mono a b c d hc hd k (by omega)
    rw [cnt, cnt, less_hasb _ _ _ _ k hc hd (by omega)]
    cases hasb a b k <;> cases hasb c d k <;> simp <;> omega
theorem bitsq_len (p q : Q4) (hp : p.2.2.1 < 18446744073709551616 ∧ p.2.2.2 < 18446744073709551616) (hq : q.2.2.1 < 18446744073709551616 ∧ q.2.2.2 < 18446744073709551616) : (bitsq p q).length ≤ pc q.2.2.1 + pc q.2.2.2 := by
  unfold bitsq
  rw [fall_cnt, ← cnt_all _ _ hq.1 hq.2]
  exact cnt_mono _ _ _ _ hp.1 hp.2 128 (Nat.le_refl _)
theorem fieldsP_size (a b : List Q4) (ha : isC a) (hb : isC b) : ∀ (n i : Nat) (l : List Q4), i + n ≤ 24 → (fieldsP a b (List.range' i n) l).length + sizeK b i ≤ sizeK b (i + n)
  | 0, i, l, h => by simp [fieldsP]
  | n + 1, i, l, h => by
    have hi : i < 24 := by omega
    have h1 := fieldsP_size a b ha hb n (i + 1) (bitsL (cq b i) i (bitsq (cq a i) (cq b i)) l) (by omega)
    have h2 := bitsq_len (cq a i) (cq b i) ⟨(cq_lt ha hi).2.2.1, (cq_lt ha hi).2.2.2⟩ ⟨(cq_lt hb hi).2.2.1, (cq_lt hb hi).2.2.2⟩
    rw [List.range'_succ, fieldsP, List.length_append, bitsP_len]
    have e : sizeK b (i + 1) = sizeK b i + (pc (cq b i).2.2.1 + pc (cq b i).2.2.2) := rfl
    rw [e] at h1
    have e2 : i + (n + 1) = i + 1 + n := by omega
    rw [e2]
    omega
theorem parts_size (a b : List Q4) (ha : isC a) (hb : isC b) (h : okC a b = true) : (partsC a b).length ≤ sizeK b 24 := by
  rw [partsC_ok h]
  have := fieldsP_size a b ha hb 24 0 (cleanC a) (by omega)
  rw [show 0 + 24 = 24 from rfl, show sizeK b 0 = 0 from rfl, Nat.add_zero] at this
  exact this
/-- the answer where there are steps enough -/
def runU (f : List Q4 → List (Nat × Nat) × Bool) : List (List Q4) → List (Nat × Nat) × Bool → List (Nat × Nat) × Bool
  | [], r => r
  | p :: ps, r => match (f p).2 with
    | true => f p
    | false => runU f ps (f p)
def looUS (rec : List (List Q4) → List Q4 → List (Nat × Nat) × Bool) (L : List (List Q4)) (c : List Q4) : List (Nat × Nat) × Bool :=
  match covC c L, decide (firK c L L.length L.length = L.length) with
  | true, _ => (z24h, false)
  | false, true => (pickC c, true)
  | false, false => runU (rec (L.drop (firK c L L.length L.length + 1))) (partsC c (L.getD (firK c L L.length L.length) [])) (z24h, false)
def looU : Nat → List (List Q4) → List Q4 → List (Nat × Nat) × Bool
  | 0 => looUS (fun _ _ => (z24h, false))
  | k + 1 => looUS (looU k)
/-- no more steps than these -/
def stpS (rec : List (List Q4) → List Q4 → Nat) (L : List (List Q4)) (c : List Q4) : Nat :=
  match covC c L, decide (firK c L L.length L.length = L.length) with
  | false, false => 1 + ((partsC c (L.getD (firK c L L.length L.length) [])).map (rec (L.drop (firK c L L.length L.length + 1)))).sum
  | _, _ => 1
def stp : Nat → List (List Q4) → List Q4 → Nat
  | 0 => stpS (fun _ _ => 0)
  | k + 1 => stpS (stp k)
theorem inc_of {s m : Int} (h0 : 0 ≤ s) (h1 : s + 1 ≤ m) (hm : m ≤ 4611686018427387904) : inc s = s + 1 := by unfold inc; rw [IntKind.wrap_i64]; omega
theorem runP_U {f : List Q4 → Int → LR} {g : List Q4 → List (Nat × Nat) × Bool} {n : List Q4 → Nat} {m : Int} : ∀ {ps : List (List Q4)} {r : LR} {u : List (Nat × Nat) × Bool},
    (∀ p ∈ ps, ∀ s : Int, 0 ≤ s → s + (n p : Int) ≤ m → (f p s).1 = (g p).1 ∧ (f p s).2.1 = (g p).2 ∧ (f p s).2.2.1 = 0 ∧ s ≤ (f p s).2.2.2 ∧ (f p s).2.2.2 ≤ s + (n p : Int)) →
    r.1 = u.1 → r.2.1 = u.2 → r.2.2.1 = 0 → 0 ≤ r.2.2.2 → r.2.2.2 + ((ps.map n).sum : Nat) ≤ m →
    (runP f ps r).1 = (runU g ps u).1 ∧ (runP f ps r).2.1 = (runU g ps u).2 ∧ (runP f ps r).2.2.1 = 0 ∧ r.2.2.2 ≤ (runP f ps r).2.2.2 ∧ (runP f ps r).2.2.2 ≤ r.2.2.2 + ((ps.map n).sum : Nat)
  | [], r, u, _, h1, h2, h3, h4, h5 => by simp [runP, runU, h1, h2, h3]
  | q :: ps, r, u, hf, h1, h2, h3, h4, h5 => by
    rw [List.map_cons, List.sum_cons] at h5 ⊢
    obtain ⟨a1, a2, a3, a4, a5⟩ := hf q (by simp) r.2.2.2 h4 (by omega)
    cases hb : (g q).2
    · have e : runP f (q :: ps) r = runP f ps (f q r.2.2.2) := by rw [runP, a2, a3, hb]; rfl
      have e2 : runU g (q :: ps) u = runU g ps (g q) := by rw [runU, hb]
      rw [e, e2]
      obtain ⟨b1, b2, b3, b4, b5⟩ := runP_U (m := m) (fun p hp => hf p (by simp [hp])) a1 a2 a3 (by omega) (by omega : (f q r.2.2.2).2.2.2 + ((ps.map n).sum : Nat) ≤ m)
      exact ⟨b1, b2, b3, by omega, by omega⟩
    · have e : runP f (q :: ps) r = f q r.2.2.2 := by rw [runP, a2, hb]; rfl
      have e2 : runU g (q :: ps) u = g q := by rw [runU, hb]
      rw [e, e2]
      exact ⟨a1, a2, a3, a4, by omega⟩
theorem look_enough {m : Int} (hm : m ≤ 4611686018427387904) : ∀ (k : Nat) (L : List (List Q4)), L.length ≤ k → ∀ (c : List Q4) (s : Int), 0 ≤ s → s + (stp k L c : Int) ≤ m →
    (lookF m k L c s).1 = (looU k L c).1 ∧ (lookF m k L c s).2.1 = (looU k L c).2 ∧ (lookF m k L c s).2.2.1 = 0 ∧ s ≤ (lookF m k L c s).2.2.2 ∧ (lookF m k L c s).2.2.2 ≤ s + (stp k L c : Int) := by
  intro k
  induction k with
  | zero =>
    intro L hk c s h0 h1
    have hL : L = [] := List.eq_nil_of_length_eq_zero (by omega)
    subst hL
    simp only [stp, stpS, lookF, looU, lookS, looUS, covC, List.any_nil, List.length_nil, firK] at h1 ⊢
    have hi := inc_of h0 (by simpa using h1) hm
    have hp : payB m (inc s) = true := by unfold payB; rw [hi]; simp; right; simpa using h1
    rw [hp, hi]
    simp
    omega
  | succ k ih =>
    intro L hk c s h0 h1
    show (lookS m (lookF m k) L c s).1 = (looUS (looU k) L c).1 ∧ (lookS m (lookF m k) L c s).2.1 = (looUS (looU k) L c).2 ∧ (lookS m (lookF m k) L c s).2.2.1 = 0 ∧ s ≤ (lookS m (lookF m k) L c s).2.2.2 ∧ (lookS m (lookF m k) L c s).2.2.2 ≤ s + (stpS (stp k) L c : Int)
    have h1 : s + (stpS (stp k) L c : Int) ≤ m := h1
    have h1' : 1 ≤ stpS (stp k) L c := by unfold stpS; split <;> omega
    have hi := inc_of h0 (by omega : s + 1 ≤ m) hm
    have hp : payB m (inc s) = true := by unfold payB; rw [hi]; simp; right; omega
    unfold lookS looUS stpS at *
    rw [hp, hi]
    cases hcv : covC c L
    · by_cases hat : firK c L L.length L.length = L.length
      · rw [hcv, decide_eq_true hat] at h1
        rw [decide_eq_true hat]
        dsimp only at h1 ⊢
        exact ⟨rfl, rfl, rfl, by omega, by omega⟩
      · rw [hcv, decide_eq_false hat] at h1
        rw [decide_eq_false hat]
        dsimp only at h1 ⊢
        have hd : (L.drop (firK c L L.length L.length + 1)).length ≤ k := by rw [List.length_drop]; omega
        obtain ⟨b1, b2, b3, b4, b5⟩ := runP_U (f := lookF m k (L.drop (firK c L L.length L.length + 1))) (g := looU k (L.drop (firK c L L.length L.length + 1))) (n := stp k (L.drop (firK c L L.length L.length + 1))) (m := m) (ps := partsC c (L.getD (firK c L L.length L.length) [])) (r := (z24h, false, 0, s + 1)) (u := (z24h, false))
          (fun p _ s' a1 a2 => ih _ hd p s' a1 a2) rfl rfl rfl (by dsimp only; omega) (by dsimp only; omega)
        dsimp only at b4 b5
        exact ⟨b1, b2, b3, by omega, by omega⟩
    · rw [hcv] at h1
      dsimp only at h1 ⊢
      exact ⟨rfl, rfl, rfl, by omega, by omega⟩
/-- how many steps are always enough -/
def prodC : List (List Q4) → Nat
  | [] => 1
  | x :: r => max (sizeK x 24) 1 * prodC r
def boundC (c : List Q4) (L : List (List Q4)) : Nat := ((meetsC c L).length + 1) * prodC (meetsC c L)
theorem prodC_pos : ∀ L, 1 ≤ prodC L
  | [] => Nat.le_refl _
  | x :: r => by
    have h1 := prodC_pos r
    have h2 : 1 ≤ max (sizeK x 24) 1 := Nat.le_max_right _ _
    exact Nat.mul_le_mul h2 h1
theorem prodC_sub {L K : List (List Q4)} (h : List.Sublist L K) : prodC L ≤ prodC K := by
  induction h with
  | slnil => exact Nat.le_refl _
  | cons x _ ih =>
    show _ ≤ max (sizeK x 24) 1 * prodC _
    have h2 : 1 ≤ max (sizeK x 24) 1 := Nat.le_max_right _ _
    calc prodC _ ≤ prodC _ := ih
      _ = 1 * prodC _ := (Nat.one_mul _).symm
      _ ≤ _ := Nat.mul_le_mul_right _ h2
  | cons_cons x _ ih => exact Nat.mul_le_mul_left _ ih
theorem ok_part {c x p y : List Q4} (hc : isC c) (hx : isC x) (hy : isC y) (hp : p ∈ partsC c x) (ho : okC p y = true) : okC c y = true := by
  have hpC := partsC_isC _ _ hc p hp
  have hh := pickC_has (meetC p y)
  have hI := pickC_isH (meetC p y) (meetC_isC p y hpC hy)
  have e := meetC_rel p y (pickC (meetC p y))
  rw [ho, hh] at e
  have e1 : hasC p (pickC (meetC p y)) = true ∧ hasC y (pickC (meetC p y)) = true := by simpa using e
  obtain ⟨b1, -⟩ := part_in hc hx hI hp e1.1
  have e2 := meetC_rel c y (pickC (meetC p y))
  rw [b1, e1.2] at e2
  cases h : okC c y
  · rw [h] at e2; simp at e2
  · rfl
theorem meets_part {c x p : List Q4} {L : List (List Q4)} (hc : isC c) (hx : isC x) (hL : ∀ y ∈ L, isC y) (hp : p ∈ partsC c x) : List.Sublist (meetsC p L) (meetsC c L) := by
  unfold meetsC
  have e : L.filter (fun y => okC p y) = (L.filter (fun y => okC c y)).filter (fun y => okC p y) := by
    rw [List.filter_filter]
    refine List.filter_congr (fun y hy => ?_)
    cases h : okC p y
    · rfl
    · rw [ok_part hc hx (hL y hy) hp h]; rfl
  rw [e]
  exact List.filter_sublist
theorem meets_split {c : List Q4} {L : List (List Q4)} {i : Nat} (hi : i < L.length) (ho : okC c (L.getD i []) = true) (hn : ∀ j, j < i → okC c (L.getD j []) = false) : meetsC c L = L.getD i [] :: meetsC c (L.drop (i + 1)) := by
  have e : L = L.take i ++ L.getD i [] :: L.drop (i + 1) := by
    rw [List.getD_eq_getElem?_getD, List.getElem?_eq_getElem hi]
    simp
  have h0 : meetsC c (L.take i) = [] := by
    unfold meetsC
    rw [List.filter_eq_nil_iff]
    intro x hx
    obtain ⟨j, hj, ex⟩ := List.getElem_of_mem hx
    rw [List.length_take] at hj
    have := hn j (by omega)
    rw [List.getElem_take] at ex
    rw [List.getD_eq_getElem?_getD, List.getElem?_eq_getElem (by omega)] at this
    simp only [Option.getD_some] at this
    rw [ex] at this
    rw [this]
    decide
  have : meetsC c L = meetsC c (L.take i) ++ meetsC c (L.getD i [] :: L.drop (i + 1)) := by
    unfold meetsC
    rw [← List.filter_append, ← e]
  rw [this, h0, List.nil_append]
  unfold meetsC
  rw [List.filter_cons, ho]
  rfl
theorem sum_le {f : List Q4 → Nat} {B : Nat} : ∀ {ps : List (List Q4)}, (∀ p ∈ ps, f p ≤ B) → (ps.map f).sum ≤ ps.length * B
  | [], _ => by simp
  | p :: ps, h => by
    have h1 := h p (by simp)
    have h2 := sum_le (f := f) (B := B) (ps := ps) (fun q hq => h q (by simp [hq]))
    rw [List.map_cons, List.sum_cons, List.length_cons, Nat.add_mul, Nat.one_mul]
    omega
theorem stp_bound : ∀ (k : Nat) (L : List (List Q4)), L.length ≤ k → (∀ x ∈ L, isC x) → ∀ c, isC c → stp k L c ≤ boundC c L
  | 0, L, hk, hL, c, hc => by
    have e : L = [] := List.eq_nil_of_length_eq_zero (by omega)
    subst e
    simp [stp, stpS, covC, firK, boundC, meetsC, prodC]
  | k + 1, L, hk, hL, c, hc => by
    have hb1 : 1 ≤ boundC c L := Nat.mul_le_mul (Nat.le_add_left 1 _) (prodC_pos _)
    show stpS (stp k) L c ≤ _
    unfold stpS
    have hfs := firK_spec c L L.length (Nat.le_refl _)
    have hfl := firK_le c L L.length L.length (Nat.le_refl _)
    cases hcv : covC c L
    · by_cases hat : firK c L L.length L.length = L.length
      · rw [decide_eq_true hat]; exact hb1
      · rw [decide_eq_false hat]
        have hlt : firK c L L.length L.length < L.length := by omega
        obtain ⟨ho, hn⟩ := hfs.2 hlt
        generalize firK c L L.length L.length = F at *
        have hxC := hL _ (getD_memC hlt)
        have hdC : ∀ x ∈ L.drop (F + 1), isC x := fun x hx => hL x (List.mem_of_mem_drop hx)
        have hd : (L.drop (F + 1)).length ≤ k := by rw [List.length_drop]; omega
        have hps := parts_size c (L.getD F []) hc hxC ho
        have hst : ∀ p ∈ partsC c (L.getD F []), stp k (L.drop (F + 1)) p ≤ boundC c (L.drop (F + 1)) := fun p hp => by
          refine Nat.le_trans (stp_bound k _ hd hdC p (partsC_isC _ _ hc p hp)) ?_
          have hs := meets_part hc hxC hdC hp
          unfold boundC
          exact Nat.mul_le_mul (Nat.add_le_add_right hs.length_le 1) (prodC_sub hs)
        have hsum := sum_le hst
        dsimp only
        unfold boundC at hsum ⊢
        rw [meets_split hlt ho hn, List.length_cons]
        show _ ≤ _ * (max (sizeK (L.getD F []) 24) 1 * prodC (meetsC c (L.drop (F + 1))))
        have hpp := prodC_pos (meetsC c (L.drop (F + 1)))
        generalize prodC (meetsC c (L.drop (F + 1))) = P at *
        generalize (meetsC c (L.drop (F + 1))).length = n at *
        have hM : sizeK (L.getD F []) 24 ≤ max (sizeK (L.getD F []) 24) 1 := Nat.le_max_left _ _
        have hM1 : 1 ≤ max (sizeK (L.getD F []) 24) 1 := Nat.le_max_right _ _
        generalize max (sizeK (L.getD F []) 24) 1 = M at *
        have h3 : (partsC c (L.getD F [])).length * ((n + 1) * P) ≤ M * ((n + 1) * P) := Nat.mul_le_mul_right _ (by omega)
        have h4 : 1 ≤ M * P := Nat.mul_le_mul hM1 hpp
        have h5 : (n + 1 + 1) * (M * P) = M * ((n + 1) * P) + M * P := by
          rw [Nat.add_mul, Nat.one_mul, Nat.mul_left_comm]
        rw [h5]
        omega
    · exact hb1

end Go.Proofs.Ytbdbehdgpmfelaa
