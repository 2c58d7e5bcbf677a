import Derived.Test.YtbdbehdgpmfelaaVi
import Derived.Test.YtbdbehdgpmfelaaVo
import Derived.Test.YtbdbehdgpmfelaaVq0
namespace Go.Proofs.Ytbdbehdgpmfelaa
open Go Go.RowKit
set_option linter.unusedVariables false
set_option linter.unusedSimpArgs false

/-- what a look answers: the header, whether there is one, the error, how many steps are spent -/
abbrev LR := List (Nat × Nat) × Bool × Int × Int
def z24h : List (Nat × Nat) := List.replicate 24 (0, 0)
def runP (f : List Q4 → Int → LR) : List (List Q4) → LR → LR
  | [], r => r
  | p :: ps, r => match (f p r.2.2.2).2.1 || !decide ((f p r.2.2.2).2.2.1 = 0) with
    | true => f p r.2.2.2
    | false => runP f ps (f p r.2.2.2)
def payB (m s : Int) : Bool := decide (1099511627776 ≤ m) || decide (s ≤ m)
def inc (s : Int) : Int := IntKind.i64.wrap (s + 1)
def lookS (m : Int) (rec : List (List Q4) → List Q4 → Int → LR) (L : List (List Q4)) (c : List Q4) (s : Int) : LR :=
  match payB m (inc s), covC c L, decide (firK c L L.length L.length = L.length) with
  | false, _, _ => (z24h, false, 5, inc s)
  | true, true, _ => (z24h, false, 0, inc s)
  | true, false, true => (pickC c, true, 0, inc s)
  | true, false, false => runP (rec (L.drop (firK c L L.length L.length + 1))) (partsC c (L.getD (firK c L L.length L.length) [])) (z24h, false, 0, inc s)
def lookF (m : Int) : Nat → List (List Q4) → List Q4 → Int → LR
  | 0 => lookS m (fun _ _ s => (z24h, false, 0, s))
  | k + 1 => lookS m (lookF m k)
theorem runP_no {f : List Q4 → Int → LR} : ∀ {ps : List (List Q4)} {r : LR}, (runP f ps r).2.1 = false → (runP f ps r).2.2.1 = 0 → ∀ p ∈ ps, ∃ s, (f p s).2.1 = false ∧ (f p s).2.2.1 = 0
  | [], _, _, _, p, hp => by cases hp
  | q :: ps, r, h1, h2, p, hp => by
    cases hb : ((f q r.2.2.2).2.1 || !decide ((f q r.2.2.2).2.2.1 = 0))
    · have e : runP f (q :: ps) r = runP f ps (f q r.2.2.2) := by rw [runP, hb]
      rw [e] at h1 h2
      rcases List.mem_cons.1 hp with rfl | hp
      · refine ⟨r.2.2.2, ?_⟩
        simp only [Bool.or_eq_false_iff, Bool.not_eq_false', decide_eq_true_eq] at hb
        exact hb
      · exact runP_no h1 h2 p hp
    · have e : runP f (q :: ps) r = f q r.2.2.2 := by rw [runP, hb]
      rw [e] at h1 h2
      rw [h1, h2] at hb
      simp at hb
theorem runP_yes {f : List Q4 → Int → LR} : ∀ {ps : List (List Q4)} {r : LR}, r.2.1 = false → (runP f ps r).2.1 = true → ∃ p ∈ ps, ∃ s, runP f ps r = f p s
  | [], r, h0, h1 => by rw [runP] at h1; rw [h0] at h1; cases h1
  | q :: ps, r, h0, h1 => by
    cases hb : ((f q r.2.2.2).2.1 || !decide ((f q r.2.2.2).2.2.1 = 0))
    · have e : runP f (q :: ps) r = runP f ps (f q r.2.2.2) := by rw [runP, hb]
      rw [e] at h1 ⊢
      simp only [Bool.or_eq_false_iff] at hb
      obtain ⟨p, hp, s, e2⟩ := runP_yes hb.1 h1
      exact ⟨p, by simp [hp], s, e2⟩
    · have e : runP f (q :: ps) r = f q r.2.2.2 := by rw [runP, hb]
      exact ⟨q, by simp, _, e⟩
theorem firK_spec (c : List Q4) (L : List (List Q4)) : ∀ j, j ≤ L.length → (firK c L L.length j = L.length → ∀ i, i < j → okC c (L.getD i []) = false) ∧ (firK c L L.length j < L.length → okC c (L.getD (firK c L L.length j) []) = true ∧ ∀ i, i < firK c L L.length j → okC c (L.getD i []) = false)
  | 0, _ => ⟨fun _ i hi => by omega, fun h => by simp [firK] at h⟩
  | j + 1, h => by
    obtain ⟨h1, h2⟩ := firK_spec c L j (by omega)
    by_cases hf : firK c L L.length j < L.length
    · have e : firK c L L.length (j + 1) = firK c L L.length j := by rw [firK, if_pos hf]
      rw [e]
      exact ⟨fun hh => by omega, fun _ => h2 hf⟩
    · have hle := firK_le c L L.length j (by omega)
      have h3 := h1 (by omega)
      cases ho : okC c (L.getD j [])
      · have e : firK c L L.length (j + 1) = L.length := by rw [firK, if_neg hf, ho]
        rw [e]
        refine ⟨fun _ i hi => ?_, fun hh => by omega⟩
        by_cases hij : i = j
        · rw [hij]; exact ho
        · exact h3 i (by omega)
      · have e : firK c L L.length (j + 1) = j := by rw [firK, if_neg hf, ho]
        rw [e]
        exact ⟨fun hh => by omega, fun _ => ⟨ho, h3⟩⟩
theorem part_in {a b : List Q4} {v : List (Nat × Nat)} (ha : isC a) (hb : isC b) (hv : isH v) {p : List Q4} (hp : p ∈ partsC a b) (h : hasC p v = true) : hasC a v = true ∧ hasC b v = false := by
  have e := parts_count a b v ha hb hv
  have hpos : 0 < cntH (partsC a b) v := cntH_pos hp h
  rw [e] at hpos
  cases h1 : hasC a v <;> cases h2 : hasC b v <;> simp [h1, h2, one] at hpos ⊢
theorem part_of {a b : List Q4} {v : List (Nat × Nat)} (ha : isC a) (hb : isC b) (hv : isH v) (h1 : hasC a v = true) (h2 : hasC b v = false) : ∃ p ∈ partsC a b, hasC p v = true := by
  have e := parts_count a b v ha hb hv
  rw [h1, h2] at e
  exact cntH_ex (by rw [e]; decide)
theorem apart_ok {a b : List Q4} {v : List (Nat × Nat)} (ho : okC a b = false) (h : hasC a v = true) : hasC b v = false := by
  have e := meetC_rel a b v
  rw [ho, h] at e
  simpa using e
theorem getD_memC {L : List (List Q4)} {i : Nat} (h : i < L.length) : L.getD i [] ∈ L := by
  rw [List.getD_eq_getElem?_getD, List.getElem?_eq_getElem h]
  exact List.getElem_mem h
theorem in_split {L : List (List Q4)} {i : Nat} {x : List Q4} (h : x ∈ L) : (∃ j, j < i ∧ j < L.length ∧ x = L.getD j []) ∨ x = L.getD i [] ∨ x ∈ L.drop (i + 1) := by
  obtain ⟨j, hj, e⟩ := List.getElem_of_mem h
  have ex : x = L.getD j [] := by rw [List.getD_eq_getElem?_getD, List.getElem?_eq_getElem hj, ← e]; rfl
  rcases Nat.lt_trichotomy j i with h1 | h1 | h1
  · exact .inl ⟨j, h1, hj, ex⟩
  · exact .inr (.inl (h1 ▸ ex))
  · refine .inr (.inr ?_)
    rw [← e]
    exact List.mem_drop_iff_getElem.2 ⟨j - (i + 1), by omega, by congr 1; omega⟩
theorem look_S {m : Int} {rec : List (List Q4) → List Q4 → Int → LR} {L : List (List Q4)} {c : List Q4} (hL : ∀ x ∈ L, isC x) (hc : isC c)
    (ih1 : firK c L L.length L.length < L.length → ∀ p, isC p → ∀ s, (rec (L.drop (firK c L L.length L.length + 1)) p s).2.1 = true → hasC p (rec (L.drop (firK c L L.length L.length + 1)) p s).1 = true ∧ (∀ x ∈ L.drop (firK c L L.length L.length + 1), hasC x (rec (L.drop (firK c L L.length L.length + 1)) p s).1 = false) ∧ isH (rec (L.drop (firK c L L.length L.length + 1)) p s).1)
    (ih2 : firK c L L.length L.length < L.length → ∀ p, isC p → ∀ s, (rec (L.drop (firK c L L.length L.length + 1)) p s).2.1 = false → (rec (L.drop (firK c L L.length L.length + 1)) p s).2.2.1 = 0 → ∀ g, isH g → hasC p g = true → ∃ x ∈ L.drop (firK c L L.length L.length + 1), hasC x g = true) (s : Int) :
    ((lookS m rec L c s).2.1 = true → hasC c (lookS m rec L c s).1 = true ∧ (∀ x ∈ L, hasC x (lookS m rec L c s).1 = false) ∧ isH (lookS m rec L c s).1) ∧
    ((lookS m rec L c s).2.1 = false → (lookS m rec L c s).2.2.1 = 0 → ∀ g, isH g → hasC c g = true → ∃ x ∈ L, hasC x g = true) := by
  unfold lookS
  have hfs := firK_spec c L L.length (Nat.le_refl _)
  have hfl := firK_le c L L.length L.length (Nat.le_refl _)
  cases hp : payB m (inc s)
  · exact ⟨fun h => (by cases h), fun _ h => by cases h⟩
  cases hcv : covC c L
  · by_cases hat : firK c L L.length L.length = L.length
    · rw [decide_eq_true hat]
      refine ⟨fun _ => ⟨pickC_has c, fun x hx => ?_, pickC_isH c hc⟩, fun h => by cases h⟩
      obtain ⟨j, hj, e⟩ := List.getElem_of_mem hx
      have ho := hfs.1 hat j hj
      have ex : L.getD j [] = x := by rw [List.getD_eq_getElem?_getD, List.getElem?_eq_getElem hj, ← e]; rfl
      rw [ex] at ho
      exact apart_ok ho (pickC_has c)
    · rw [decide_eq_false hat]
      have hlt : firK c L L.length L.length < L.length := by omega
      have h2 := hfs.2 hlt
      have i1 := ih1 hlt
      have i2 := ih2 hlt
      have hxm := getD_memC hlt
      have hxC := hL _ hxm
      have spl := fun x (hx : x ∈ L) => in_split (i := firK c L L.length L.length) hx
      have dm : ∀ x, x ∈ L.drop (firK c L L.length L.length + 1) → x ∈ L := fun x hx => List.mem_of_mem_drop hx
      generalize firK c L L.length L.length = F at *
      generalize rec (L.drop (F + 1)) = f at *
      refine ⟨fun h => ?_, fun h h' g hg hcg => ?_⟩
      · obtain ⟨p, hp', s', e⟩ := runP_yes rfl h
        show hasC c (runP f _ _).1 = true ∧ (∀ x ∈ L, hasC x (runP f _ _).1 = false) ∧ isH (runP f _ _).1
        rw [e] at h ⊢
        obtain ⟨a1, a2, a3⟩ := i1 p (partsC_isC _ _ hc p hp') s' h
        obtain ⟨b1, b2⟩ := part_in hc hxC a3 hp' a1
        refine ⟨b1, fun x hx => ?_, a3⟩
        rcases spl x hx with ⟨j, h3, h4, rfl⟩ | rfl | h3
        · exact apart_ok (h2.2 j h3) b1
        · exact b2
        · exact a2 x h3
      · cases hxg : hasC (L.getD F []) g
        · obtain ⟨p, hp', hpg⟩ := part_of hc hxC hg hcg hxg
          obtain ⟨s', a1, a2⟩ := runP_no h h' p hp'
          obtain ⟨x, hx, hxg'⟩ := i2 p (partsC_isC _ _ hc p hp') s' a1 a2 g hg hpg
          exact ⟨x, dm x hx, hxg'⟩
        · exact ⟨_, hxm, hxg⟩
  · refine ⟨fun h => (by cases h), fun _ _ g hg hcg => ?_⟩
    unfold covC at hcv
    obtain ⟨x, hx, hi⟩ := List.any_eq_true.1 hcv
    exact ⟨x, hx, (withinC c x g hc (hL x hx) hi).2.2.1 hcg⟩
/-- what is told is in the cube and in none of the others; nothing is told only if each header of the cube is in one of them -/
theorem look_tells (m : Int) : ∀ (k : Nat) (L : List (List Q4)), L.length ≤ k → (∀ x ∈ L, isC x) → ∀ c, isC c → ∀ s,
    ((lookF m k L c s).2.1 = true → hasC c (lookF m k L c s).1 = true ∧ (∀ x ∈ L, hasC x (lookF m k L c s).1 = false) ∧ isH (lookF m k L c s).1) ∧
    ((lookF m k L c s).2.1 = false → (lookF m k L c s).2.2.1 = 0 → ∀ g, isH g → hasC c g = true → ∃ x ∈ L, hasC x g = true)
  | 0, L, hk, hL, c, hc, s => look_S hL hc (fun h => by omega) (fun h => by omega) s
  | k + 1, L, hk, hL, c, hc, s => by
    have hd : ∀ n, (L.drop (n + 1)).length ≤ k := fun n => by rw [List.length_drop]; omega
    have hm : ∀ n, ∀ x ∈ L.drop (n + 1), isC x := fun n x hx => hL x (List.mem_of_mem_drop hx)
    exact look_S hL hc (fun _ p hp s => (look_tells m k _ (hd _) (hm _) p hp s).1) (fun _ p hp s => (look_tells m k _ (hd _) (hm _) p hp s).2) s

end Go.Proofs.Ytbdbehdgpmfelaa
