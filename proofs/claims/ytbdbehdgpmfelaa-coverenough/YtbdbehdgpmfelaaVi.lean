import Derived.Test.YtbdbehdgpmfelaaVb
import Derived.Test.YtbdbehdgpmfelaaXj
import Derived.Test.YtbdbehdgpmfelaaXh
namespace Go.Proofs.Ytbdbehdgpmfelaa
open Go Go.RowKit
set_option linter.unusedVariables false
set_option linter.unusedSimpArgs false

theorem half_bits (v m x : Nat) (hm : m < 18446744073709551616) : ((v ^^^ x) &&& m == 0) = true ↔ ∀ i, i < 64 → m.testBit i = true → v.testBit i = x.testBit i := by
  rw [beq_iff_eq, tb_has]
  constructor
  · exact fun h i _ hi => h i hi
  · intro h i hi
    by_cases k : i < 64
    · exact h i k hi
    · rw [tb_high m i hm (by omega)] at hi; cases hi
theorem thz_bits (a b c d x y : Nat) (hc : c < 18446744073709551616) (hd : d < 18446744073709551616) : thz a b c d x y = true ↔ ∀ i, i < 128 → hasb c d i = true → hasb a b i = hasb x y i := by
  unfold thz
  rw [Bool.and_eq_true, half_bits a c x hc, half_bits b d y hd]
  constructor
  · rintro ⟨h1, h2⟩ i hi hm
    by_cases k : i < 64
    · rw [hasb_lo _ _ _ k] at hm ⊢
      rw [hasb_lo _ _ _ k]; exact h2 i k hm
    · rw [hasb_hi _ _ _ k] at hm ⊢
      rw [hasb_hi _ _ _ k]; exact h1 (i - 64) (by omega) hm
  · intro h
    constructor
    · intro i hi hm
      have := h (i + 64) (by omega)
      rw [hasb_hi _ _ _ (by omega), hasb_hi _ _ _ (by omega), hasb_hi _ _ _ (by omega), Nat.add_sub_cancel] at this
      exact this hm
    · intro i hi hm
      have := h i (by omega)
      rw [hasb_lo _ _ _ hi, hasb_lo _ _ _ hi, hasb_lo _ _ _ hi] at this
      exact this hm
theorem hasb_and (c d c2 d2 i : Nat) : hasb (c &&& c2) (d &&& d2) i = (hasb c d i && hasb c2 d2 i) := by
  unfold hasb; split <;> rw [Nat.testBit_and]
theorem hasb_or (c d c2 d2 i : Nat) : hasb (c ||| c2) (d ||| d2) i = (hasb c d i || hasb c2 d2 i) := by
  unfold hasb; split <;> rw [Nat.testBit_or]
theorem mok_bits {q r : Q4} (h : mok4 q r = true) (h3 : q.2.2.1 < 18446744073709551616) (h4 : q.2.2.2 < 18446744073709551616) (i : Nat) (hi : i < 128) (m1 : hasb q.2.2.1 q.2.2.2 i = true) (m2 : hasb r.2.2.1 r.2.2.2 i = true) : hasb q.1 q.2.1 i = hasb r.1 r.2.1 i := by
  have h' : thz q.1 q.2.1 (q.2.2.1 &&& r.2.2.1) (q.2.2.2 &&& r.2.2.2) r.1 r.2.1 = true := h
  rw [thz_bits _ _ _ _ _ _ (and_lt _ _ h3) (and_lt _ _ h4)] at h'
  exact h' i hi (by rw [hasb_and, m1, m2]; rfl)
theorem fall_nodup (p : Nat → Bool) : ∀ k, (fall p k).Nodup
  | 0 => List.nodup_nil
  | k + 1 => by
    unfold fall
    split
    · refine List.nodup_cons.2 ⟨fun h => ?_, fall_nodup p k⟩
      have := ((fall_mem p k k).1 h).1
      omega
    · exact fall_nodup p k
/-- whether a value has a bit as a tern's value has it -/
def agr (r : Q4) (p : Nat × Nat) (i : Nat) : Bool := hasb p.1 p.2 i == onq r i
theorem fixq_has (q : Q4) (p : Nat × Nat) (i : Nat) (on : Bool) (hi : i < 128) (hq : q.1 < 18446744073709551616 ∧ q.2.1 < 18446744073709551616 ∧ q.2.2.1 < 18446744073709551616 ∧ q.2.2.2 < 18446744073709551616) (hp : p.1 < 18446744073709551616 ∧ p.2 < 18446744073709551616) (hfree : hasb q.2.2.1 q.2.2.2 i = false) :
    thz4 (fixq q i on) p = ((hasb p.1 p.2 i == on) && thz4 q p) := by
  have e := fix_free q.1 q.2.1 q.2.2.1 q.2.2.2 p.1 p.2 i hi hq.1 hq.2.1 hq.2.2.1 hq.2.2.2 hp.1 hp.2 hfree
  cases on
  · have := fix_off q.1 q.2.1 q.2.2.1 q.2.2.2 p.1 p.2 i hi hq.1 hq.2.1 hq.2.2.1 hq.2.2.2 hp.1 hp.2
    rw [e] at this
    show thz _ _ _ _ _ _ = _
    refine this.trans ?_
    cases hasb p.1 p.2 i <;> rfl
  · have := fix_on q.1 q.2.1 q.2.2.1 q.2.2.2 p.1 p.2 i hi hq.1 hq.2.1 hq.2.2.1 hq.2.2.2 hp.1 hp.2
    rw [e] at this
    show thz _ _ _ _ _ _ = _
    refine this.trans ?_
    cases hasb p.1 p.2 i <;> rfl
theorem cq_set_same {l : List Q4} {f : Nat} (q : Q4) (hf : f < l.length) : cq (l.set f q) f = q := cq_at (List.getElem?_set_self hf)
theorem cq_set_ne {l : List Q4} {f k : Nat} (q : Q4) (h : f ≠ k) : cq (l.set f q) k = cq l k := by
  unfold cq; rw [List.getD_eq_getElem?_getD, List.getD_eq_getElem?_getD, List.getElem?_set_ne h]
theorem hasC_set (l : List Q4) (v : List (Nat × Nat)) (f : Nat) (q : Q4) (z : Bool) (hl : l.length = 24) (hf : f < 24) (h : thz4 q (wq v f) = (z && thz4 (cq l f) (wq v f))) : hasC (l.set f q) v = (z && hasC l v) := by
  unfold hasC
  cases z
  · rw [Bool.false_and] at h ⊢
    exact allB_false hf (by rw [cq_set_same q (by omega)]; exact h)
  · rw [Bool.true_and] at h ⊢
    refine allB_congr (fun k hk => ?_)
    by_cases e : f = k
    · subst e; rw [cq_set_same q (by omega)]; exact h
    · rw [cq_set_ne q e]
theorem wq_lt {v : List (Nat × Nat)} (hv : isH v) {k : Nat} (hk : k < 24) : (wq v k).1 < 18446744073709551616 ∧ (wq v k).2 < 18446744073709551616 := by
  obtain ⟨x, y, e, h1, h2⟩ := hv.get hk
  rw [wq_at e]; exact ⟨h1, h2⟩
/-- how many of some cubes have a header -/
def cntH (L : List (List Q4)) (v : List (Nat × Nat)) : Nat := (L.filter (fun c => hasC c v)).length
theorem cntH_cons (x : List Q4) (L : List (List Q4)) (v : List (Nat × Nat)) : cntH (x :: L) v = (match hasC x v with | true => 1 | false => 0) + cntH L v := by
  unfold cntH
  rw [List.filter_cons]
  cases hasC x v <;> simp; omega
theorem cntH_app (K L : List (List Q4)) (v : List (Nat × Nat)) : cntH (K ++ L) v = cntH K v + cntH L v := by
  unfold cntH; rw [List.filter_append, List.length_append]
def one (z : Bool) : Nat := match z with | true => 1 | false => 0
theorem bits_count (r : Q4) (f : Nat) (v : List (Nat × Nat)) (hv : isH v) (hf : f < 24) : ∀ (is : List Nat) (l : List Q4), isC l → is.Nodup → (∀ i ∈ is, i < 128 ∧ hasb (cq l f).2.2.1 (cq l f).2.2.2 i = false) →
    cntH (bitsP r f is l) v = one (hasC l v && !(is.all (agr r (wq v f)))) ∧ hasC (bitsL r f is l) v = (hasC l v && is.all (agr r (wq v f))) ∧ (∀ k, k ≠ f → cq (bitsL r f is l) k = cq l k) ∧ isC (bitsL r f is l)
  | [], l, hl, _, _ => ⟨by simp [bitsP, cntH, one], by simp [bitsL], fun _ _ => rfl, hl⟩
  | i :: is, l, hl, hd, h => by
    have hi := h i List.mem_cons_self
    have hd' := List.nodup_cons.1 hd
    have hq := cq_lt hl hf
    have hp := wq_lt hv hf
    have e1 : ∀ on, hasC (putq l f i on) v = ((hasb (wq v f).1 (wq v f).2 i == on) && hasC l v) := fun on =>
      hasC_set l v f _ _ hl.1 hf (fixq_has (cq l f) (wq v f) i on hi.1 hq hp hi.2)
    have hc' : isC (putq l f i (onq r i)) := putq_isC hl hf hi.1 _
    have hfree : ∀ j ∈ is, j < 128 ∧ hasb (cq (putq l f i (onq r i)) f).2.2.1 (cq (putq l f i (onq r i)) f).2.2.2 j = false := fun j hj => by
      have hj' := h j (List.mem_cons_of_mem _ hj)
      refine ⟨hj'.1, ?_⟩
      unfold putq
      rw [cq_set_same _ (by rw [hl.1]; exact hf)]
      show hasb (_ ||| bh i) (_ ||| bl i) j = false
      rw [hasb_or, hj'.2, bit_hasb i j hi.1 hj'.1, decide_eq_false (fun e : j = i => hd'.1 (e ▸ hj))]
      rfl
    obtain ⟨k1, k2, k3, k4⟩ := bits_count r f v hv hf is (putq l f i (onq r i)) hc' hd'.2 hfree
    refine ⟨?_, ?_, ?_, k4⟩
    · show cntH (putq l f i (!onq r i) :: bitsP r f is (putq l f i (onq r i))) v = _
      rw [cntH_cons, k1, e1, e1, List.all_cons]
      unfold agr
      cases hasb (wq v f).1 (wq v f).2 i <;> cases onq r i <;> cases hasC l v <;> cases (is.all _) <;> rfl
    · show hasC (bitsL r f is (putq l f i (onq r i))) v = _
      rw [k2, e1, List.all_cons]
      unfold agr
      cases hasb (wq v f).1 (wq v f).2 i <;> cases onq r i <;> cases hasC l v <;> cases (is.all _) <;> rfl
    · intro k hk
      show cq (bitsL r f is (putq l f i (onq r i))) k = _
      rw [k3 k hk]
      exact cq_set_ne _ (fun e => hk e.symm)
theorem fields_count (a b : List Q4) (v : List (Nat × Nat)) (hv : isH v) (ha : isC a) (hb : isC b) : ∀ (fs : List Nat) (l : List Q4), isC l → fs.Nodup → (∀ f ∈ fs, f < 24 ∧ cq l f = clean4 (cq a f)) →
    cntH (fieldsP a b fs l) v = one (hasC l v && !(fs.all fun f => (bitsq (cq a f) (cq b f)).all (agr (cq b f) (wq v f))))
  | [], l, _, _, _ => by simp [fieldsP, cntH, one]
  | f :: fs, l, hl, hd, h => by
    have hf := h f List.mem_cons_self
    have hd' := List.nodup_cons.1 hd
    obtain ⟨k1, k2, k3, k4⟩ := bits_count (cq b f) f v hv hf.1 (bitsq (cq a f) (cq b f)) l hl (fall_nodup _ _) (fun i hi => by
      obtain ⟨h1, h2⟩ := (fall_mem _ 128 i).1 hi
      refine ⟨h1, ?_⟩
      rw [less_hasb _ _ _ _ i (cq_lt ha hf.1).2.2.1 (cq_lt ha hf.1).2.2.2 h1] at h2
      rw [hf.2]
      show hasb (cq a f).2.2.1 (cq a f).2.2.2 i = false
      cases hh : hasb (cq a f).2.2.1 (cq a f).2.2.2 i
      · rfl
      · rw [hh] at h2; simp at h2)
    have ih := fields_count a b v hv ha hb fs _ k4 hd'.2 (fun g hg => by
      have := h g (List.mem_cons_of_mem _ hg)
      refine ⟨this.1, ?_⟩
      rw [k3 g (fun e => hd'.1 (e ▸ hg))]
      exact this.2)
    rw [fieldsP, cntH_app, k1, ih, k2, List.all_cons]
    cases hasC l v <;> cases ((bitsq (cq a f) (cq b f)).all _) <;> cases (fs.all _) <;> rfl
theorem clean_hasC (a : List Q4) (v : List (Nat × Nat)) : hasC (cleanC a) v = hasC a v := by
  unfold hasC
  refine allB_congr (fun k hk => ?_)
  rw [cq_at (cleanC_at a k hk)]
  show thz ((cq a k).1 &&& (cq a k).2.2.1) ((cq a k).2.1 &&& (cq a k).2.2.2) (cq a k).2.2.1 (cq a k).2.2.2 _ _ = thz _ _ _ _ _ _
  have t : ∀ x m y : Nat, ((x &&& m) ^^^ y) &&& m = (x ^^^ y) &&& m := fun x m y => by
    apply Nat.eq_of_testBit_eq
    intro i
    rw [Nat.testBit_and, Nat.testBit_xor, Nat.testBit_and, Nat.testBit_and, Nat.testBit_xor]
    cases x.testBit i <;> cases m.testBit i <;> cases y.testBit i <;> rfl
  unfold thz
  rw [t, t]
theorem field_agr (q r : Q4) (p : Nat × Nat) (hq : q.2.2.1 < 18446744073709551616 ∧ q.2.2.2 < 18446744073709551616) (hr : r.2.2.1 < 18446744073709551616 ∧ r.2.2.2 < 18446744073709551616) (hm : mok4 q r = true) (h : thz4 q p = true) : (bitsq q r).all (agr r p) = thz4 r p := by
  have h' := (thz_bits _ _ _ _ _ _ hq.1 hq.2).1 h
  rw [Bool.eq_iff_iff, List.all_eq_true]
  show _ ↔ thz _ _ _ _ _ _ = true
  rw [thz_bits _ _ _ _ _ _ hr.1 hr.2]
  constructor
  · intro k i hi hmr
    cases hma : hasb q.2.2.1 q.2.2.2 i
    · have : i ∈ bitsq q r := (fall_mem _ 128 i).2 ⟨hi, by rw [less_hasb _ _ _ _ i hq.1 hq.2 hi, hma, hmr]; rfl⟩
      have := k i this
      unfold agr onq at this
      rw [beq_iff_eq] at this
      exact this.symm
    · rw [← mok_bits hm hq.1 hq.2 i hi hma hmr]; exact h' i hi hma
  · intro k i hi
    obtain ⟨h1, h2⟩ := (fall_mem _ 128 i).1 hi
    rw [less_hasb _ _ _ _ i hq.1 hq.2 h1, Bool.and_eq_true] at h2
    unfold agr onq
    rw [beq_iff_eq]
    exact (k i h1 h2.1).symm
theorem parts_count (a b : List Q4) (v : List (Nat × Nat)) (ha : isC a) (hb : isC b) (hv : isH v) : cntH (partsC a b) v = one (hasC a v && !hasC b v) := by
  cases hok : okC a b
  · rw [partsC_no hok, cntH_cons, clean_hasC]
    have := meetC_rel a b v
    rw [hok, Bool.false_and] at this
    revert this
    cases hasC a v <;> cases hasC b v <;> simp [cntH, one]
  · rw [partsC_ok hok, fields_count a b v hv ha hb _ _ (cleanC_isC a ha) (List.nodup_range' ..) (fun f hf => by
      have : f < 24 := by simp at hf; omega
      exact ⟨this, cq_at (cleanC_at a f this)⟩), clean_hasC]
    cases h : hasC a v
    · rfl
    · congr 3
      rw [Bool.eq_iff_iff, List.all_eq_true]
      have e : ∀ f, f < 24 → (bitsq (cq a f) (cq b f)).all (agr (cq b f) (wq v f)) = thz4 (cq b f) (wq v f) := fun f hf =>
        field_agr _ _ _ ⟨(cq_lt ha hf).2.2.1, (cq_lt ha hf).2.2.2⟩ ⟨(cq_lt hb hf).2.2.1, (cq_lt hb hf).2.2.2⟩ (allB_at (p := fun k => mok4 (cq a k) (cq b k)) hok hf) (allB_at (p := fun k => thz4 (cq a k) (wq v k)) h hf)
      constructor
      · intro k
        exact allB_intro (fun f hf => by rw [← e f hf]; exact k f (by simp; omega))
      · intro k f hf
        have hf : f < 24 := by simp at hf; omega
        rw [e f hf]; exact allB_at (p := fun f => thz4 (cq b f) (wq v f)) k hf

end Go.Proofs.Ytbdbehdgpmfelaa
