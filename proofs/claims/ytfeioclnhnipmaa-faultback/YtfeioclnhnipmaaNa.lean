import Derived.Test.YtfeioclnhnipmaaVa
import Derived.Test.YtfeioclnhnipmaaNv
namespace Go.Proofs.Ytfeioclnhnipmaa
open Go Go.RowKit
set_option linter.unusedVariables false
set_option linter.unusedSimpArgs false

/-- what a round must keep: R captured, S written by the iterator alone, T made by it and only read -/
def Kp (R S T : Nat → Prop) : Nat → Prop := fun k => R k ∨ S k ∨ T k
/-- the world has grown; what is newly of S or T is new -/
structure Grew (S T S' T' : Nat → Prop) (A A' : World) : Prop where
  b : Below A.heap.size A A'
  s : ∀ k, S' k → S k ∨ (A.heap.size ≤ k ∧ k < A'.heap.size)
  t : ∀ k, T' k → T k ∨ (A.heap.size ≤ k ∧ k < A'.heap.size)
/-- what a round is told: bytes x that lie elsewhere than what the iterator writes -/
def Told (R S T : Nat → Prop) (x : List Int) (args : Array Value) (W : World) : Prop :=
  ∃ g off, args = #[.slice (some ⟨g, off, none⟩) x.length x.length] ∧ Bytes W (.slice (some ⟨g, off, none⟩) x.length x.length) x ∧ (¬ S g ∧ (R g ∨ T g)) ∧ 0 < x.length
theorem Told.lt {R S T : Nat → Prop} {x : List Int} {args : Array Value} {W : World} (h : Told R S T x args W) : ∃ g off e cs fz, args = #[.slice (some ⟨g, off, none⟩) x.length x.length] ∧ W.heap[g]? = some (.cells cs e fz) := by
  obtain ⟨g, off, rfl, ⟨a, cap, e1, h1, h2, h3, h4, h5⟩, hS, h0⟩ := h
  cases e1
  obtain ⟨z, hz⟩ : ∃ z, x[0]? = some z := ⟨_, List.getElem?_eq_getElem h0⟩
  have := h5 _ rfl 0 z hz
  rw [Addr.add_lit] at this
  unfold World.cell? at this
  refine ⟨g, off, ?_⟩
  simp only at this
  split at this
  · rename_i cs e fz hh
    exact ⟨e, cs, fz, rfl, hh⟩
  · cases this
/-- a slice's cells stay, if its block does -/
theorem bytes_of_block {g off n cap : Nat} {x : List Int} {W W' : World} (h : Bytes W (.slice (some ⟨g, off, none⟩) n cap) x) (hb : W'.heap[g]? = W.heap[g]?) : Bytes W' (.slice (some ⟨g, off, none⟩) n cap) x := by
  obtain ⟨a, cap', e1, h1, h2, h3, h4, h5⟩ := h
  cases e1
  refine ⟨_, _, rfl, h1, h2, h3, h4, fun ad e j z hz => ?_⟩
  cases e
  have := h5 _ rfl j z hz
  rw [Addr.add_lit] at this ⊢
  unfold World.cell? at this ⊢
  simp only at this ⊢
  rw [hb]; exact this
theorem Told.out {R S T : Nat → Prop} {x : List Int} {args : Array Value} {W W' : World} (h : Told R S T x args W) (ho : Out S W W') : Told R S T x args W' := by
  obtain ⟨g', off', e, cs, fz, e1, hh⟩ := h.lt
  obtain ⟨g, off, e2, hb, hS, h0⟩ := h
  have e3 : g = g' ∧ off = off' := by rw [e2] at e1; simp at e1; exact e1
  obtain ⟨rfl, rfl⟩ := e3
  exact ⟨g, off, e2, bytes_of_block hb (ho.block g (Array.getElem?_eq_some_iff.1 hh).1 hS.1), hS, h0⟩
/-- an iterator's contract: it tells L, slices of bytes -/
def SeqT (P : Program) (g : Nat) (lb : Array Value) (L : List (List Int)) (R : Nat → Prop) (w : World) : Prop :=
  ∀ (l : Nat) (J Jx : (Nat → Prop) → (Nat → Prop) → List (List Int) → World → Prop) (W : World), Below w.heap.size w W →
    (∀ S T pre A A', J S T pre A → Out S A A' → J S T pre A') → (∀ S T pre A A', Jx S T pre A → Out S A A' → Jx S T pre A') →
    (∀ S T S' T' pre A A', J S T pre A → Grew S T S' T' A A' → J S' T' pre A') →
    (∀ S T pre x args W1, pre ++ [x] <+: L → J S T pre W1 → Told R S T x args W1 → YieldAt Fence.wide 0 P l args W1 fun e W' =>
      (e = .returned (.bool true) ∧ J S T (pre ++ [x]) W' ∧ Keep (Kp R S T) W1 W') ∨ (e = .returned (.bool false) ∧ Jx S T (pre ++ [x]) W' ∧ Keep (Kp R S T) W1 W')) →
    J (fun _ => False) (fun _ => False) [] W →
    Calls P g (#[.func (.yield l) #[] #[]] ++ lb) W fun e W' => (∃ v, e = .returned v) ∧ ((∃ S T, J S T L W') ∨ ∃ S T pre, pre <+: L ∧ Jx S T pre W')
theorem SeqT.later {P : Program} {g : Nat} {lb : Array Value} {L : List (List Int)} {R : Nat → Prop} {w w' : World} (h : SeqT P g lb L R w) (hb : Below w.heap.size w w') : SeqT P g lb L R w' :=
  fun l J Jx W hW => h l J Jx W (hb.trans (hW.mono hb.size))
/-- a value that is an iterator of bytes -/
def IsSeqT (P : Program) (v : Value) (L : List (List Int)) (R : Nat → Prop) (w : World) : Prop :=
  ∃ gf lb, v = .func (.func gf) #[] lb ∧ (∀ args w, (callFunc gf args).run P w = .ok (.enter gf args) w) ∧ SeqT P gf lb L R w
theorem IsSeqT.later {P : Program} {v : Value} {L : List (List Int)} {R : Nat → Prop} {w w' : World} (h : IsSeqT P v L R w) (hb : Below w.heap.size w w') : IsSeqT P v L R w' := by
  obtain ⟨gf, lb, rfl, eg, hs⟩ := h
  exact ⟨gf, lb, rfl, eg, hs.later hb⟩
/-- how the body of a round may be left -/
def postT (R S T : Nat → Prop) (I : (Nat → Prop) → (Nat → Prop) → List (List Int) → World → Prop) (Ix : Code → (Nat → Prop) → (Nat → Prop) → List (List Int) → World → Prop) (xs : List (List Int)) (W : World) : Exit → Act → World → Prop
  | .normal, _, W' => Keep (Kp R S T) W W' ∧ I S T xs W'
  | .ret, _, W' => Keep (Kp R S T) W W' ∧ Ix .ret S T xs W'
  | .exit id, _, W' => Keep (Kp R S T) W W' ∧ Ix (.exit id) S T xs W'
  | .goto t, _, W' => Keep (Kp R S T) W W' ∧ Ix (.goto t) S T xs W'
  | .panic _, _, _ => False
  | .outgrown, _, _ => False

/-- a range over a function whose contract is SeqT -/
theorem wp_rangeT {P : Program} {g : Operand} {ps : Array Tmp} {assign body : Code} {Q : Exit → Act → World → Prop} {a : Act} {w : World}
    {v : Value} (hg : a.eval g = v) {L : List (List Int)} {R : Nat → Prop} {w0 : World} (hseq : IsSeqT P v L R w0) (hR : ∀ k, R k → k < w.heap.size) (hb0 : Below w0.heap.size w0 w) (hps : 1 = ps.size)
    (I : (Nat → Prop) → (Nat → Prop) → List (List Int) → World → Prop) (Ix : Code → (Nat → Prop) → (Nat → Prop) → List (List Int) → World → Prop) (Ax : (Nat → Prop) → List Int → Act → World → Prop)
    (hI : ∀ S T pre A A', I S T pre A → Out S A A' → I S T pre A') (hIg : ∀ S T S' T' pre A A', I S T pre A → Grew S T S' T' A A' → I S' T' pre A') (hIx : ∀ c S T pre A A', Ix c S T pre A → Out S A A' → Ix c S T pre A')
    (hAx : ∀ S x a' A A', Ax S x a' A → Out S A A' → Ax S x a' A')
    (h0 : ∀ W, Below w.heap.size w W → W.heap.size = w.heap.size + 2 → I (Books (fun _ => False) w.heap.size) (fun _ => False) [] W)
    (hassign : ∀ (l : Nat) (S T : Nat → Prop) (pre : List (List Int)) (x : List Int) (args : Array Value) (W : World), pre ++ [x] <+: L → I S T pre W → Told R S T x args W →
      assign.wpIn (Fence.wide.inRound l) 0 P (Exit.then (fun a' W' => Keep (Kp R S T) W W' ∧ I S T pre W' ∧ Ax S x a' W') (fun _ _ _ => False)) { tmps := (ps.zip args).foldl (fun t (p, v) => t.setIfInBounds p v) a.tmps, defers := [] } W)
    (hbody : ∀ (l : Nat) (S T : Nat → Prop) (pre : List (List Int)) (x : List Int) (a' : Act) (W : World), pre ++ [x] <+: L → I S T pre W → Ax S x a' W →
      body.wpIn (Fence.wide.inRound l) 0 P (postT R S T I Ix (pre ++ [x]) W) a' W)
    (hdone : ∀ (D : Nat) (S T : Nat → Prop) (W : World), w.heap.size ≤ D → S D → I S T L W → W.heap[D]? = some (.deferred (some [])) → Q .normal { a with defers := { target := .collected D, args := #[] } :: a.defers } W)
    (hstop : ∀ (D : Nat) (S T : Nat → Prop) (c : Code) (pre : List (List Int)) (W : World), w.heap.size ≤ D → S D → pre <+: L → Ix c S T pre W → W.heap[D]? = some (.deferred (some [])) → c.wp P Q { a with defers := { target := .collected D, args := #[] } :: a.defers } W) :
    (Code.rangeFunc g ps assign body).wp P Q a w := by
  obtain ⟨gf, lb, rfl, eg, hseq⟩ := hseq
  refine (wpIn_wide (n := 0)).1 (wpIn_rangeFunc ?_)
  intro fn hfn
  obtain ⟨rec, hrec⟩ : ∃ rec : LoopState → Option Code → Loop, rec = fun st pe => { state := st, pending := pe, fn, tmps := a.tmps, params := ps, assign, body, defers := w.heap.size } := ⟨_, rfl⟩
  obtain ⟨W1, hW1⟩ : ∃ W1, (w.alloc (.deferred (some []))).alloc (.loop (rec .ready none)) = W1 := ⟨_, rfl⟩
  have hL1 : W1.heap[w.heap.size + 1]? = some (.loop (rec .ready none)) := by
    rw [← hW1]; have := World.alloc_heap_new (w.alloc (.deferred (some []))) (.loop (rec .ready none)); rwa [World.size_alloc] at this
  have hK1 : W1.heap[w.heap.size]? = some (.deferred (some [])) := by
    rw [← hW1]; exact (Below.heap_alloc _ _ _ (by simp)).trans (World.alloc_heap_new w _)
  have hbw : Below w.heap.size w W1 := by
    rw [← hW1]; exact ((Below.refl _ w).alloc (Nat.le_refl _) _).alloc (by simp) _
  have hb1 : Below w0.heap.size w0 W1 := hb0.trans (hbw.mono hb0.size)
  have hs1 : W1.heap.size = w.heap.size + 2 := by rw [← hW1]; simp
  have bk0 : ∀ S : Nat → Prop, Books S w.heap.size w.heap.size := fun S => .inr ⟨Nat.le_refl _, by omega⟩
  have bk1 : ∀ S : Nat → Prop, Books S w.heap.size (w.heap.size + 1) := fun S => .inr ⟨by omega, by omega⟩
  refine ⟨w.heap.size + 1, [{ target := .collected w.heap.size, args := #[] }], W1, { target := .fn (.func gf) lb, args := #[.func (.yield (w.heap.size + 1)) #[] #[]] }, W1, gf,
    #[.func (.yield (w.heap.size + 1)) #[] #[]] ++ lb, W1, ?_, ?_, ?_, ?_, (fun h => by cases h), callsIn_wide.2 ?_⟩
  · rw [← hW1, hrec]; exact run_enterLoop_outer _ _ _ _ _
  · simp only [resolve, hg]
    simp [go_sem]
  · intro f' hf'; exact trivial
  · simp [invoke, go_sem, eg]
  · have hsame : ∀ {S : Nat → Prop} {A A' : World} {k : Nat} {o : Obj}, Out S A A' → ¬ S k → A.heap[k]? = some o → A'.heap[k]? = some o := fun ho hk h =>
      (ho.block _ (Array.getElem?_eq_some_iff.1 h).1 hk).trans h
    refine (hseq (w.heap.size + 1)
      (fun S T pre W => I (Books S w.heap.size) T pre W ∧ ((¬ S w.heap.size ∧ ¬ S (w.heap.size + 1)) ∧ ¬ T (w.heap.size + 1)) ∧ W.heap[w.heap.size + 1]? = some (.loop (rec .ready none)) ∧ W.heap[w.heap.size]? = some (.deferred (some [])))
      (fun S T pre W => ∃ c, Ix c (Books S w.heap.size) T pre W ∧ ((¬ S w.heap.size ∧ ¬ S (w.heap.size + 1)) ∧ ¬ T (w.heap.size + 1)) ∧ W.heap[w.heap.size + 1]? = some (.loop (rec .done (some c))) ∧ W.heap[w.heap.size]? = some (.deferred (some [])))
      W1 hb1
      (fun S T s A A' hs ho => ⟨hI _ _ s A A' hs.1 (ho.wide (fun k h => .inl h)), hs.2.1, hsame ho hs.2.1.1.2 hs.2.2.1, hsame ho hs.2.1.1.1 hs.2.2.2⟩)
      (fun S T s A A' hs ho => by
        obtain ⟨c, hc, h2, hl, hk⟩ := hs
        exact ⟨c, hIx c _ _ s A A' hc (ho.wide (fun k h => .inl h)), h2, hsame ho h2.1.2 hl, hsame ho h2.1.1 hk⟩)
      (fun S T S' T' s A A' hs hg => by
        obtain ⟨hi, h2, hl, hk⟩ := hs
        have hb := hg.b
        have e1 := (Array.getElem?_eq_some_iff.1 hl).1
        have e2 := (Array.getElem?_eq_some_iff.1 hk).1
        refine ⟨hIg _ _ _ _ s A A' hi ⟨hb, fun k h => ?_, hg.t⟩, ⟨⟨fun h => ?_, fun h => ?_⟩, fun h => ?_⟩, (hb.block _ e1).trans hl, (hb.block _ e2).trans hk⟩
        · rcases h with h | h
          · exact (hg.s k h).imp .inl id
          · exact .inl (.inr h)
        · rcases hg.s _ h with h | h
          · exact h2.1.1 h
          · omega
        · rcases hg.s _ h with h | h
          · exact h2.1.2 h
          · omega
        · rcases hg.t _ h with h | h
          · exact h2.2 h
          · omega)
      ?_ ⟨h0 W1 hbw hs1, ⟨⟨fun h => h, fun h => h⟩, fun h => h⟩, hL1, hK1⟩).mono ?_
    · rintro S T pre x args W hpre ⟨hi, hB2, hl, hk⟩ hT
      have hlt : w.heap.size + 1 < W.heap.size := (Array.getElem?_eq_some_iff.1 hl).1
      have hTB : Told R (Books S w.heap.size) T x args W := by
        obtain ⟨g', off', e, cs, fz, e1, hh⟩ := hT.lt
        obtain ⟨g, off, e2, hb, hS, h0⟩ := hT
        have e3 : g = g' ∧ off = off' := by rw [e2] at e1; simp at e1; exact e1
        obtain ⟨rfl, rfl⟩ := e3
        refine ⟨g, off, e2, hb, ⟨?_, hS.2⟩, h0⟩
        rintro (h | ⟨h1, h2⟩)
        · exact hS.1 h
        · rcases (by omega : g = w.heap.size ∨ g = w.heap.size + 1) with rfl | rfl
          · rw [hk] at hh; cases hh
          · rw [hl] at hh; cases hh
      have hargs : args.size = ps.size := by obtain ⟨_, _, e2, _⟩ := hT; rw [e2, ← hps]; rfl
      have hy := run_yield (P := P) (args := args) hl (by rw [hrec]; exact hargs)
      rw [hrec] at hy
      refine ⟨fn, _, assign, body, hy, roundIn_of_wpIn hfn ?_⟩
      clear hy
      refine wpIn_mono (hassign (w.heap.size + 1) _ _ pre x args W hpre hi hTB) ?_
      intro e a' Wa hea
      cases e with
      | normal =>
        obtain ⟨hka, hia, hax⟩ := hea
        have hl' := (hka.block _ (.inr (.inl (bk1 S)))).trans hl
        have hk' := (hka.block _ (.inr (.inl (bk0 S)))).trans hk
        have hlt' : w.heap.size + 1 < Wa.heap.size := (Array.getElem?_eq_some_iff.1 hl').1
        refine ⟨_, run_beginRound hl' (by rw [hrec]), ?_⟩
        have ho2 : ∀ o, Out (Books S w.heap.size) Wa (Wa.putObj (w.heap.size + 1) o) := fun o => Out.putObj o (bk1 S)
        have hl2 : (Wa.putObj (w.heap.size + 1) (.loop { rec .ready none with state := .busy })).heap[w.heap.size + 1]? = some (.loop { rec .ready none with state := .busy }) := World.putObj_heap_same hlt'
        have hk2 : (Wa.putObj (w.heap.size + 1) (.loop { rec .ready none with state := .busy })).heap[w.heap.size]? = some (.deferred (some [])) := (World.putObj_heap_other (by omega)).trans hk'
        refine wpIn_mono (hbody (w.heap.size + 1) _ _ pre x a' _ hpre (hI _ _ _ _ _ hia (ho2 _)) (hAx _ _ _ _ _ hax (ho2 _))) ?_
        have fin : ∀ (jump : Option Code) (W3 : World), Keep (Kp R (Books S w.heap.size) T) (Wa.putObj (w.heap.size + 1) (.loop { rec .ready none with state := .busy })) W3 →
            (Instr.endRound (w.heap.size + 1) jump).run P W3 = .ok (.bool jump.isNone) (W3.putObj (w.heap.size + 1) (.loop (rec (if jump.isNone then .ready else .done) jump))) ∧
            (W3.putObj (w.heap.size + 1) (.loop (rec (if jump.isNone then .ready else .done) jump))).heap[w.heap.size + 1]? = some (.loop (rec (if jump.isNone then .ready else .done) jump)) ∧
            (W3.putObj (w.heap.size + 1) (.loop (rec (if jump.isNone then .ready else .done) jump))).heap[w.heap.size]? = some (.deferred (some [])) ∧
            Keep (Kp R S T) W (W3.putObj (w.heap.size + 1) (.loop (rec (if jump.isNone then .ready else .done) jump))) := fun jump W3 hk3 => by
          have hl3 := (hk3.block _ (.inr (.inl (bk1 S)))).trans hl2
          have := run_endRound (P := P) jump hl3
          rw [hrec] at this ⊢
          refine ⟨this, World.putObj_heap_same (Array.getElem?_eq_some_iff.1 hl3).1, (World.putObj_heap_other (by omega)).trans ((hk3.block _ (.inr (.inl (bk0 S)))).trans hk2), by have := hka.size; have := hk3.size; simp at this ⊢; omega, fun k h1 => ?_⟩
          have hkne : k ≠ w.heap.size + 1 := fun e => by
            subst e
            rcases h1 with h1 | h1 | h1
            · have := hR _ h1; omega
            · exact hB2.1.2 h1
            · exact hB2.2 h1
          have h1' : Kp R (Books S w.heap.size) T k := h1.imp id (Or.imp .inl id)
          rw [World.putObj_heap_other hkne, hk3.block k h1', World.putObj_heap_other hkne, hka.block k h1']
        have ho3 : ∀ (W3 : World) o, Out (Books S w.heap.size) W3 (W3.putObj (w.heap.size + 1) o) := fun W3 o => Out.putObj o (bk1 S)
        rintro e a3 W3 hp
        cases e with
        | normal =>
          obtain ⟨hk3, hi3⟩ := hp
          obtain ⟨hr, hl4, hk4, hkk⟩ := fin none W3 hk3
          exact ⟨_, _, hr, .inl ⟨rfl, ⟨hI _ _ _ _ _ hi3 (ho3 _ _), hB2, hl4, hk4⟩, hkk⟩⟩
        | ret =>
          obtain ⟨hk3, hi3⟩ := hp
          obtain ⟨hr, hl4, hk4, hkk⟩ := fin (some .ret) W3 hk3
          exact ⟨_, _, hr, .inr ⟨rfl, ⟨.ret, hIx _ _ _ _ _ _ hi3 (ho3 _ _), hB2, hl4, hk4⟩, hkk⟩⟩
        | exit id =>
          obtain ⟨hk3, hi3⟩ := hp
          obtain ⟨hr, hl4, hk4, hkk⟩ := fin (some (.exit id)) W3 hk3
          exact ⟨_, _, hr, .inr ⟨rfl, ⟨.exit id, hIx _ _ _ _ _ _ hi3 (ho3 _ _), hB2, hl4, hk4⟩, hkk⟩⟩
        | goto t =>
          obtain ⟨hk3, hi3⟩ := hp
          obtain ⟨hr, hl4, hk4, hkk⟩ := fin (some (.goto t)) W3 hk3
          exact ⟨_, _, hr, .inr ⟨rfl, ⟨.goto t, hIx _ _ _ _ _ _ hi3 (ho3 _ _), hB2, hl4, hk4⟩, hkk⟩⟩
        | panic ch => exact hp.elim
        | outgrown => exact hp.elim
      | ret => exact hea.elim
      | exit id => exact hea.elim
      | goto t => exact hea.elim
      | panic ch => exact hea.elim
      | outgrown => exact hea.elim
    · rintro e W2 ⟨⟨v, rfl⟩, (⟨S, T, hi, hB2, hl, hk⟩ | ⟨S, T, pre, hSp, c, hi, hB2, hl, hk⟩)⟩
      · exact ⟨none, _, by have := run_endLoop (P := P) hl (by rw [hrec]; simp); rw [hrec] at this; exact this, hdone _ _ _ _ (Nat.le_refl _) (bk0 S) (hI _ _ _ _ _ hi (Out.putObj _ (bk1 S))) ((World.putObj_heap_other (by omega)).trans hk)⟩
      · exact ⟨some c, _, by have := run_endLoop (P := P) hl (by rw [hrec]; simp); rw [hrec] at this; exact this, wpIn_wide.2 (hstop _ _ _ c pre _ (Nat.le_refl _) (bk0 S) hSp (hIx _ _ _ _ _ _ hi (Out.putObj _ (bk1 S))) ((World.putObj_heap_other (by omega)).trans hk))⟩


end Go.Proofs.Ytfeioclnhnipmaa
