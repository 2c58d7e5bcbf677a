import Derived.RangeFuncNested
import Derived.RangeFuncLeaves
import Derived.RangeFuncBound
import Derived.Below
namespace Go.Proofs.Ytfeioclnhnipmaa
open Go Go.RowKit
set_option linter.unusedVariables false
set_option linter.unusedSimpArgs false

/-- outside of the blocks of S the world is as it was -/
structure Out (S : Nat → Prop) (w w' : World) : Prop where
  os : w'.os = w.os
  tape : w'.tape = w.tape
  output : w'.output = w.output
  size : w.heap.size ≤ w'.heap.size
  block : ∀ k, k < w.heap.size → ¬ S k → w'.heap[k]? = w.heap[k]?
theorem Out.refl (S : Nat → Prop) (w : World) : Out S w w := ⟨rfl, rfl, rfl, Nat.le_refl _, fun _ _ _ => rfl⟩
theorem Out.trans {S : Nat → Prop} {a b c : World} (h : Out S a b) (k : Out S b c) : Out S a c :=
  ⟨k.os.trans h.os, k.tape.trans h.tape, k.output.trans h.output, Nat.le_trans h.size k.size, fun i hi hn => (k.block i (Nat.lt_of_lt_of_le hi h.size) hn).trans (h.block i hi hn)⟩
theorem Out.wide {S T : Nat → Prop} {a b : World} (h : Out S a b) (hl : ∀ k, S k → T k) : Out T a b := ⟨h.os, h.tape, h.output, h.size, fun k hk hn => h.block k hk (fun e => hn (hl k e))⟩
theorem Out.of_below {S : Nat → Prop} {a b : World} (h : Below a.heap.size a b) : Out S a b := ⟨h.os, h.tape, h.output, h.size, fun k hk _ => h.block k hk⟩
theorem Out.putObj {S : Nat → Prop} {l : Nat} {W : World} (o : Obj) (h1 : S l) : Out S W (W.putObj l o) :=
  ⟨rfl, rfl, rfl, by simp, fun k hk hn => World.putObj_heap_other (fun e => hn (e ▸ h1))⟩
theorem Out.setCell {S : Nat → Prop} {W : World} {p : Addr} (h1 : S p.block) (v : Value) : Out S W (W.setCell p v) :=
  ⟨rfl, rfl, rfl, by simp [World.setCell], fun k hk hn => Below.heap_setCell _ _ _ _ (fun e => hn (e ▸ h1))⟩
theorem Out.below {S : Nat → Prop} {n : Nat} {w W W' : World} (h : Out S W W') (hb : Below n w W) (hl : n ≤ w.heap.size) (hS : ∀ k, S k → n ≤ k) : Below n w W' :=
  hb.trans ⟨h.os, h.tape, h.output, h.size, fun k hk => h.block k (by have := hb.size; omega) (fun e => by have := hS k e; omega)⟩
/-- S, and the blocks that were made since -/
def Grow (S : Nat → Prop) (w w' : World) : Nat → Prop := fun k => S k ∨ (w.heap.size ≤ k ∧ k < w'.heap.size)
/-- the blocks of S are as they were -/
structure Keep (S : Nat → Prop) (w w' : World) : Prop where
  size : w.heap.size ≤ w'.heap.size
  block : ∀ k, S k → w'.heap[k]? = w.heap[k]?
theorem Keep.refl (S : Nat → Prop) (w : World) : Keep S w w := ⟨Nat.le_refl _, fun _ _ => rfl⟩
theorem Keep.trans {S : Nat → Prop} {a b c : World} (h : Keep S a b) (k : Keep S b c) : Keep S a c :=
  ⟨Nat.le_trans h.size k.size, fun i h1 => (k.block i h1).trans (h.block i h1)⟩
theorem Keep.sub {S T : Nat → Prop} {a b : World} (h : Keep S a b) (hl : ∀ k, T k → S k) : Keep T a b := ⟨h.size, fun k h1 => h.block k (hl k h1)⟩
theorem Keep.of_below {S : Nat → Prop} {a b : World} (h : Below a.heap.size a b) (hh : ∀ k, S k → k < a.heap.size) : Keep S a b := ⟨h.size, fun k h2 => h.block k (hh k h2)⟩
theorem Keep.alloc {S : Nat → Prop} {a : World} (hh : ∀ k, S k → k < a.heap.size) (o : Obj) : Keep S a (a.alloc o) := ⟨by simp, fun k h2 => Below.heap_alloc _ _ _ (hh k h2)⟩
theorem Keep.setCell {S : Nat → Prop} {W : World} {p : Addr} (h : ¬ S p.block) (v : Value) : Keep S W (W.setCell p v) :=
  ⟨by simp [World.setCell], fun k h1 => Below.heap_setCell _ _ _ _ (fun e => h (e ▸ h1))⟩
theorem Keep.drew {S : Nat → Prop} {a w : World} (h : Keep S a w) : Keep S a w.drew := ⟨h.size, h.block⟩
/-- what a round must keep: what the iterator has captured (R), and what it has made (S) -/
def Both (R S : Nat → Prop) : Nat → Prop := fun k => R k ∨ S k
/-- an iterator's contract: it tells L; it writes nothing but what it made itself (S); R: what it has captured -/
def SeqX {α : Type} (P : Program) (g : Nat) (lb : Array Value) (encs : α → Array Value) (L : List α) (R : Nat → Prop) (w : World) : Prop :=
  ∀ (l : Nat) (J Jx : (Nat → Prop) → List α → World → Prop) (W : World), Below w.heap.size w W →
    (∀ S pre A A', J S pre A → Out S A A' → J S pre A') → (∀ S pre A A', Jx S pre A → Out S A A' → Jx S pre A') →
    (∀ S pre A A', J S pre A → Below A.heap.size A A' → J (Grow S A A') pre A') →
    (∀ S pre x W1, pre ++ [x] <+: L → J S pre W1 → YieldAt Fence.wide 0 P l (encs x) W1 fun e W' =>
      (e = .returned (.bool true) ∧ J S (pre ++ [x]) W' ∧ Keep (Both R S) W1 W') ∨ (e = .returned (.bool false) ∧ Jx S (pre ++ [x]) W' ∧ Keep (Both R S) W1 W')) →
    J (fun _ => False) [] W →
    Calls P g (#[.func (.yield l) #[] #[]] ++ lb) W fun e W' => (∃ v, e = .returned v) ∧ ((∃ S, J S L W') ∨ ∃ S pre, pre <+: L ∧ Jx S pre W')
theorem SeqX.later {α : Type} {P : Program} {g : Nat} {lb : Array Value} {encs : α → Array Value} {L : List α} {R : Nat → Prop} {w w' : World} (h : SeqX P g lb encs L R w) (hb : Below w.heap.size w w') : SeqX P g lb encs L R w' :=
  fun l J Jx W hW => h l J Jx W (hb.trans (hW.mono hb.size))
/-- a value that is an iterator -/
def IsSeq {α : Type} (P : Program) (v : Value) (encs : α → Array Value) (L : List α) (R : Nat → Prop) (w : World) : Prop :=
  ∃ gf lb, v = .func (.func gf) #[] lb ∧ (∀ args w, (callFunc gf args).run P w = .ok (.enter gf args) w) ∧ SeqX P gf lb encs L R w
theorem IsSeq.later {α : Type} {P : Program} {v : Value} {encs : α → Array Value} {L : List α} {R : Nat → Prop} {w w' : World} (h : IsSeq P v encs L R w) (hb : Below w.heap.size w w') : IsSeq P v encs L R w' := by
  obtain ⟨gf, lb, rfl, eg, hs⟩ := h
  exact ⟨gf, lb, rfl, eg, hs.later hb⟩

/-- how the body of a round may be left -/
def postX {α : Type} (R S : Nat → Prop) (I : (Nat → Prop) → List α → World → Prop) (Ix : Code → (Nat → Prop) → List α → World → Prop) (xs : List α) (W : World) : Exit → Act → World → Prop
  | .normal, _, W' => Keep (Both R S) W W' ∧ I S xs W'
  | .ret, _, W' => Keep (Both R S) W W' ∧ Ix .ret S xs W'
  | .exit id, _, W' => Keep (Both R S) W W' ∧ Ix (.exit id) S xs W'
  | .goto t, _, W' => Keep (Both R S) W W' ∧ Ix (.goto t) S xs W'
  | .panic _, _, _ => False
  | .outgrown, _, _ => False
/-- the two blocks of a loop's books -/
def Books (R : Nat → Prop) (n : Nat) : Nat → Prop := fun k => R k ∨ (n ≤ k ∧ k < n + 2)
theorem books_grow (S : Nat → Prop) (n : Nat) (A A' : World) : Grow (Books S n) A A' = Books (Grow S A A') n := by
  funext k
  apply propext
  unfold Grow Books
  constructor
  · rintro ((h | h) | h)
    · exact .inl (.inl h)
    · exact .inr h
    · exact .inl (.inr h)
  · rintro ((h | h) | h)
    · exact .inl (.inl h)
    · exact .inr h
    · exact .inl (.inr h)

/-- a range over a function whose contract is SeqX -/
theorem wp_rangeX {α : Type} {P : Program} {g : Operand} {ps : Array Tmp} {assign body : Code} {Q : Exit → Act → World → Prop} {a : Act} {w : World}
    {v : Value} (hg : a.eval g = v) {encs : α → Array Value} {L : List α} {R : Nat → Prop} {w0 : World} (hseq : IsSeq P v encs L R w0) (hR : ∀ k, R k → k < w.heap.size) (hb0 : Below w0.heap.size w0 w) (hps : ∀ x, (encs x).size = ps.size)
    (I : (Nat → Prop) → List α → World → Prop) (Ix : Code → (Nat → Prop) → List α → World → Prop) (Ax : (Nat → Prop) → α → Act → World → Prop)
    (hI : ∀ S pre A A', I S pre A → Out S A A' → I S pre A') (hIg : ∀ S pre A A', I S pre A → Below A.heap.size A A' → I (Grow S A A') pre A') (hIx : ∀ c S pre A A', Ix c S pre A → Out S A A' → Ix c S pre A')
    (hAx : ∀ S x a' A A', Ax S x a' A → Out S A A' → Ax S x a' A')
    (h0 : ∀ W, Below w.heap.size w W → W.heap.size = w.heap.size + 2 → I (Books (fun _ => False) w.heap.size) [] W)
    (hassign : ∀ (l : Nat) (S : Nat → Prop) (pre : List α) (x : α) (W : World), pre ++ [x] <+: L → I S pre W →
      assign.wpIn (Fence.wide.inRound l) 0 P (Exit.then (fun a' W' => Keep (Both R S) W W' ∧ I S pre W' ∧ Ax S x a' W') (fun _ _ _ => False)) { tmps := (ps.zip (encs x)).foldl (fun t (p, v) => t.setIfInBounds p v) a.tmps, defers := [] } W)
    (hbody : ∀ (l : Nat) (S : Nat → Prop) (pre : List α) (x : α) (a' : Act) (W : World), pre ++ [x] <+: L → I S pre W → Ax S x a' W →
      body.wpIn (Fence.wide.inRound l) 0 P (postX R S I Ix (pre ++ [x]) W) a' W)
    (hdone : ∀ (D : Nat) (S : Nat → Prop) (W : World), w.heap.size ≤ D → S D → I S L W → W.heap[D]? = some (.deferred (some [])) → Q .normal { a with defers := { target := .collected D, args := #[] } :: a.defers } W)
    (hstop : ∀ (D : Nat) (S : Nat → Prop) (c : Code) (pre : List α) (W : World), w.heap.size ≤ D → S D → pre <+: L → Ix c S pre W → W.heap[D]? = some (.deferred (some [])) → c.wp P Q { a with defers := { target := .collected D, args := #[] } :: a.defers } W) :
    (Code.rangeFunc g ps assign body).wp P Q a w := by
  obtain ⟨gf, lb, rfl, eg, hseq⟩ := hseq
  refine (wpIn_wide (n := 0)).1 (wpIn_rangeFunc ?_)
  intro fn hfn
  obtain ⟨rec, hrec⟩ : ∃ rec : LoopState → Option Code → Loop, rec = fun st pe => { state := st, pending := pe, fn, tmps := a.tmps, params := ps, assign, body, defers := w.heap.size } := ⟨_, rfl⟩
  obtain ⟨W1, hW1⟩ : ∃ W1, (w.alloc (.deferred (some []))).alloc (.loop (rec .ready none)) = W1 := ⟨_, rfl⟩
  have hL1 : W1.heap[w.heap.size + 1]? = some (.loop (rec .ready none)) := by
    rw [← hW1]; have := World.alloc_heap_new (w.alloc (.deferred (some []))) (.loop (rec .ready none)); rwa [World.size_alloc] at this
  have hK1 : W1.heap[w.heap.size]? = some (.deferred (some [])) := by
    rw [← hW1]; exact (Below.heap_alloc _ _ _ (by simp)).trans (World.alloc_heap_new w _)
  have hbw : Below w.heap.size w W1 := by
    rw [← hW1]; exact ((Below.refl _ w).alloc (Nat.le_refl _) _).alloc (by simp) _
  have hb1 : Below w0.heap.size w0 W1 := hb0.trans (hbw.mono hb0.size)
  have hs1 : W1.heap.size = w.heap.size + 2 := by rw [← hW1]; simp
  have bk0 : ∀ S : Nat → Prop, Books S w.heap.size w.heap.size := fun S => .inr ⟨Nat.le_refl _, by omega⟩
  have bk1 : ∀ S : Nat → Prop, Books S w.heap.size (w.heap.size + 1) := fun S => .inr ⟨by omega, by omega⟩
  refine ⟨w.heap.size + 1, [{ target := .collected w.heap.size, args := #[] }], W1, { target := .fn (.func gf) lb, args := #[.func (.yield (w.heap.size + 1)) #[] #[]] }, W1, gf,
    #[.func (.yield (w.heap.size + 1)) #[] #[]] ++ lb, W1, ?_, ?_, ?_, ?_, (fun h => by cases h), callsIn_wide.2 ?_⟩
  · rw [← hW1, hrec]; exact run_enterLoop_outer _ _ _ _ _
  · simp only [resolve, hg]
    simp [go_sem]
  · intro f' hf'; exact trivial
  · simp [invoke, go_sem, eg]
  · have hsame : ∀ {S : Nat → Prop} {A A' : World} {k : Nat} {o : Obj}, Out S A A' → ¬ S k → A.heap[k]? = some o → A'.heap[k]? = some o := fun ho hk h =>
      (ho.block _ (Array.getElem?_eq_some_iff.1 h).1 hk).trans h
    refine (hseq (w.heap.size + 1)
      (fun S pre W => I (Books S w.heap.size) pre W ∧ (¬ S w.heap.size ∧ ¬ S (w.heap.size + 1)) ∧ W.heap[w.heap.size + 1]? = some (.loop (rec .ready none)) ∧ W.heap[w.heap.size]? = some (.deferred (some [])))
      (fun S pre W => ∃ c, Ix c (Books S w.heap.size) pre W ∧ (¬ S w.heap.size ∧ ¬ S (w.heap.size + 1)) ∧ W.heap[w.heap.size + 1]? = some (.loop (rec .done (some c))) ∧ W.heap[w.heap.size]? = some (.deferred (some [])))
      W1 hb1
      (fun S s A A' hs ho => ⟨hI _ s A A' hs.1 (ho.wide (fun k h => .inl h)), hs.2.1, hsame ho hs.2.1.2 hs.2.2.1, hsame ho hs.2.1.1 hs.2.2.2⟩)
      (fun S s A A' hs ho => by
        obtain ⟨c, hc, h2, hl, hk⟩ := hs
        exact ⟨c, hIx c _ s A A' hc (ho.wide (fun k h => .inl h)), h2, hsame ho h2.2 hl, hsame ho h2.1 hk⟩)
      (fun S s A A' hs hb => by
        obtain ⟨hi, h2, hl, hk⟩ := hs
        have e1 := (Array.getElem?_eq_some_iff.1 hl).1
        have e2 := (Array.getElem?_eq_some_iff.1 hk).1
        refine ⟨by rw [← books_grow]; exact hIg _ s A A' hi hb, ⟨?_, ?_⟩, (hb.block _ e1).trans hl, (hb.block _ e2).trans hk⟩
        · rintro (h | h)
          · exact h2.1 h
          · omega
        · rintro (h | h)
          · exact h2.2 h
          · omega)
      ?_ ⟨h0 W1 hbw hs1, ⟨fun h => h, fun h => h⟩, hL1, hK1⟩).mono ?_
    · rintro S pre x W hpre ⟨hi, hB2, hl, hk⟩
      have hlt : w.heap.size + 1 < W.heap.size := (Array.getElem?_eq_some_iff.1 hl).1
      have hy := run_yield (P := P) (args := encs x) hl (by rw [hrec]; exact hps x)
      rw [hrec] at hy
      refine ⟨fn, _, assign, body, hy, roundIn_of_wpIn hfn ?_⟩
      clear hy
      refine wpIn_mono (hassign (w.heap.size + 1) _ pre x W hpre hi) ?_
      intro e a' Wa hea
      cases e with
      | normal =>
        obtain ⟨hka, hia, hax⟩ := hea
        have hl' := (hka.block _ (.inr (bk1 S))).trans hl
        have hk' := (hka.block _ (.inr (bk0 S))).trans hk
        have hlt' : w.heap.size + 1 < Wa.heap.size := (Array.getElem?_eq_some_iff.1 hl').1
        refine ⟨_, run_beginRound hl' (by rw [hrec]), ?_⟩
        have ho2 : ∀ o, Out (Books S w.heap.size) Wa (Wa.putObj (w.heap.size + 1) o) := fun o => Out.putObj o (bk1 S)
        have hl2 : (Wa.putObj (w.heap.size + 1) (.loop { rec .ready none with state := .busy })).heap[w.heap.size + 1]? = some (.loop { rec .ready none with state := .busy }) := World.putObj_heap_same hlt'
        have hk2 : (Wa.putObj (w.heap.size + 1) (.loop { rec .ready none with state := .busy })).heap[w.heap.size]? = some (.deferred (some [])) := (World.putObj_heap_other (by omega)).trans hk'
        refine wpIn_mono (hbody (w.heap.size + 1) _ pre x a' _ hpre (hI _ _ _ _ hia (ho2 _)) (hAx _ _ _ _ _ hax (ho2 _))) ?_
        have fin : ∀ (jump : Option Code) (W3 : World), Keep (Both R (Books S w.heap.size)) (Wa.putObj (w.heap.size + 1) (.loop { rec .ready none with state := .busy })) W3 →
            (Instr.endRound (w.heap.size + 1) jump).run P W3 = .ok (.bool jump.isNone) (W3.putObj (w.heap.size + 1) (.loop (rec (if jump.isNone then .ready else .done) jump))) ∧
            (W3.putObj (w.heap.size + 1) (.loop (rec (if jump.isNone then .ready else .done) jump))).heap[w.heap.size + 1]? = some (.loop (rec (if jump.isNone then .ready else .done) jump)) ∧
            (W3.putObj (w.heap.size + 1) (.loop (rec (if jump.isNone then .ready else .done) jump))).heap[w.heap.size]? = some (.deferred (some [])) ∧
            Keep (Both R S) W (W3.putObj (w.heap.size + 1) (.loop (rec (if jump.isNone then .ready else .done) jump))) := fun jump W3 hk3 => by
          have hl3 := (hk3.block _ (.inr (bk1 S))).trans hl2
          have := run_endRound (P := P) jump hl3
          rw [hrec] at this ⊢
          refine ⟨this, World.putObj_heap_same (Array.getElem?_eq_some_iff.1 hl3).1, (World.putObj_heap_other (by omega)).trans ((hk3.block _ (.inr (bk0 S))).trans hk2), by have := hka.size; have := hk3.size; simp at this ⊢; omega, fun k h1 => ?_⟩
          have hkne : k ≠ w.heap.size + 1 := fun e => by
            subst e
            rcases h1 with h1 | h1
            · have := hR _ h1; omega
            · exact hB2.2 h1
          have h1' : Both R (Books S w.heap.size) k := h1.imp id .inl
          rw [World.putObj_heap_other hkne, hk3.block k h1', World.putObj_heap_other hkne, hka.block k h1']
        have ho3 : ∀ (W3 : World) o, Out (Books S w.heap.size) W3 (W3.putObj (w.heap.size + 1) o) := fun W3 o => Out.putObj o (bk1 S)
        rintro e a3 W3 hp
        cases e with
        | normal =>
          obtain ⟨hk3, hi3⟩ := hp
          obtain ⟨hr, hl4, hk4, hkk⟩ := fin none W3 hk3
          exact ⟨_, _, hr, .inl ⟨rfl, ⟨hI _ _ _ _ hi3 (ho3 _ _), hB2, hl4, hk4⟩, hkk⟩⟩
        | ret =>
          obtain ⟨hk3, hi3⟩ := hp
          obtain ⟨hr, hl4, hk4, hkk⟩ := fin (some .ret) W3 hk3
          exact ⟨_, _, hr, .inr ⟨rfl, ⟨.ret, hIx _ _ _ _ _ hi3 (ho3 _ _), hB2, hl4, hk4⟩, hkk⟩⟩
        | exit id =>
          obtain ⟨hk3, hi3⟩ := hp
          obtain ⟨hr, hl4, hk4, hkk⟩ := fin (some (.exit id)) W3 hk3
          exact ⟨_, _, hr, .inr ⟨rfl, ⟨.exit id, hIx _ _ _ _ _ hi3 (ho3 _ _), hB2, hl4, hk4⟩, hkk⟩⟩
        | goto t =>
          obtain ⟨hk3, hi3⟩ := hp
          obtain ⟨hr, hl4, hk4, hkk⟩ := fin (some (.goto t)) W3 hk3
          exact ⟨_, _, hr, .inr ⟨rfl, ⟨.goto t, hIx _ _ _ _ _ hi3 (ho3 _ _), hB2, hl4, hk4⟩, hkk⟩⟩
        | panic ch => exact hp.elim
        | outgrown => exact hp.elim
      | ret => exact hea.elim
      | exit id => exact hea.elim
      | goto t => exact hea.elim
      | panic ch => exact hea.elim
      | outgrown => exact hea.elim
    · rintro e W2 ⟨⟨v, rfl⟩, (⟨S, hi, hB2, hl, hk⟩ | ⟨S, pre, hSp, c, hi, hB2, hl, hk⟩)⟩
      · exact ⟨none, _, by have := run_endLoop (P := P) hl (by rw [hrec]; simp); rw [hrec] at this; exact this, hdone _ _ _ (Nat.le_refl _) (bk0 S) (hI _ _ _ _ hi (Out.putObj _ (bk1 S))) ((World.putObj_heap_other (by omega)).trans hk)⟩
      · exact ⟨some c, _, by have := run_endLoop (P := P) hl (by rw [hrec]; simp); rw [hrec] at this; exact this, wpIn_wide.2 (hstop _ _ c pre _ (Nat.le_refl _) (bk0 S) hSp (hIx _ _ _ _ _ hi (Out.putObj _ (bk1 S))) ((World.putObj_heap_other (by omega)).trans hk))⟩

/-- a function that holds a range over a function: entered -/
theorem calls_of_wp_marks {P : Program} {f : FuncId} {fn : Func} {c : Code} {args : Array Value} {w : World} {R : Ending → World → Prop} (hf : P.funcs[f]? = some fn) (hb : fn.body = some c)
    (h : c.wp P (bodyPostM Fence.wide 0 P fn R) { tmps := args ++ Array.replicate (fn.ntmps - args.size) undef, defers := [] } w) : Calls P f args w R :=
  (callsIn_wide (n := 0)).1 (callsIn_of_wp_marks hf hb trivial (wpIn_wide.2 h) rfl)
/-- its end, with the loop's mark -/
theorem marks_ret {P : Program} {fn : Func} {R : Ending → World → Prop} {tmps : Array Value} {D : Nat} {W : World} {v : Value} (hK : W.heap[D]? = some (.deferred (some [])))
    (hr : (results fn tmps).run P (W.putObj D (.deferred none)) = .ok v (W.putObj D (.deferred none))) (h : R (.returned v) (W.putObj D (.deferred none))) :
    LeavesInM Fence.wide 0 P fn tmps R [{ target := .collected D, args := #[] }] .returning W := by
  refine ⟨by simp, .inl ⟨_, _, rfl, run_takeDeferred hK, ?_⟩⟩
  exact ⟨_, hr, h⟩
theorem marks_none {P : Program} {fn : Func} {R : Ending → World → Prop} {tmps : Array Value} {W : World} {v : Value}
    (hr : (results fn tmps).run P W = .ok v W) (h : R (.returned v) W) : LeavesInM Fence.wide 0 P fn tmps R [] .returning W := ⟨_, hr, h⟩
theorem marksN {F : Fence} {P : Program} {fn : Func} {R : Ending → World → Prop} {a : Act} {w : World} (h : LeavesInM F 0 P fn a.tmps R a.defers .returning w) : bodyPostM F 0 P fn R .normal a w := h
theorem marksR {F : Fence} {P : Program} {fn : Func} {R : Ending → World → Prop} {a : Act} {w : World} (h : LeavesInM F 0 P fn a.tmps R a.defers .returning w) : bodyPostM F 0 P fn R .ret a w := h

end Go.Proofs.Ytfeioclnhnipmaa
