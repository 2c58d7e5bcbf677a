import Derived.Test.YtfeioclnhnipmaaNe
import Derived.Deep.RegionHeld3
import Derived.Deep.RegionWith
import Derived.Deep.MidRow
import Derived.Deep.Cut
import Derived.WalkMore
import Derived.Maps.AppendAt
import Derived.Great.BuildSlice
import Derived.Great.FillDense
namespace Go.Proofs.Ytfeioclnhnipmaa
open Go Go.RowKit
set_option linter.unusedVariables false
set_option linter.unusedSimpArgs false
attribute [local go_sem] Oper.semAt_some

theorem wpList_build1 {P : Program} {ops : Array Oper} {rest : List Oper} {o : Oper} {a : Act} {w : World} {Q : Exit → Act → World → Prop} (hg : o.guard = none) (t e : TypeId) (x : Operand) (ho : o.op = .buildSlice t 1 #[(0, x)])
    (cs : List Value) (z : Value) (n by' : Nat) (hx : a.eval x = .agg cs.toArray) (hu : P.underlying t = some (.slice e)) (hi : (P.info? e).map (fun i => (i.zero, i.size, i.bytes)) = some (some z, n, by')) (hz : z.cells.size = n) (hn : cs.length = n) (h0 : 0 < n) (h24 : n ≤ 2 ^ 24)
    (h : wpList P ops Q rest (a.put o.dst (.slice (some ⟨w.heap.size, 0, none⟩) 1 1)) (w.alloc (.cells cs.toArray e))) : wpList P ops Q (o :: rest) a w := by
  obtain ⟨i0, hi0, hz0, hz1, hz2⟩ := info_parts hi
  refine wpList_buildSlice hg t e 1 _ ho cs.toArray i0 z hu hi0 hz0 (by rw [hz1]; omega) (by rw [hz1]; omega) ?_ h
  have := Great.fill_whole (s := n) h0 [.agg cs.toArray] ((Array.range (1 * i0.size)).map (z.cells[· % z.cells.size]!)) (by simp [Value.cells, hn]) (by simp [hz1])
  rw [hz1] at this ⊢
  simpa [hx, Value.cells] using this
theorem own_set1 {w : World} {n o : Nat} {base : Nat} {e : TypeId} {size : Nat} {v : Value} {k : Nat} {xs : List Value} (ho : w.ownsRow base e size v k xs) (hne : v.ownBlock ≠ some n) (x : Value) : (w.setCell ⟨n, o, none⟩ x).ownsRow base e size v k xs := by
  refine ⟨ho.1, ?_⟩
  rcases ho.2 with h | ⟨g, cap, cur, rfl, hb, hg, r⟩
  · exact .inl h
  · exact .inr ⟨g, cap, cur, rfl, hb, (Below.heap_setCell _ _ _ _ (fun e => hne (by rw [Value.ownBlock]; exact congrArg some e))).trans hg, r⟩
theorem infoS : (Try.prog.info? 24).map (fun i => (i.zero, i.size, i.bytes)) = some (some (.slice none 0 0), 1, 24) := by kernel_rfl
/-- a cell that holds bytes, elsewhere than Bx and the row's block, and out of S -/
def Piece (S : Nat → Prop) (Bx : Nat) (u : Value) (W : World) (v : Value) (x : List Int) : Prop :=
  ∃ g off, v = .slice (some ⟨g, off, none⟩) x.length x.length ∧ Bytes W v x ∧ 0 < x.length ∧ ¬ S g ∧ g ≠ Bx ∧ u.ownBlock ≠ some g ∧ g < W.heap.size
/-- a row of slices of bytes, in a box -/
def RowT (n0 Bx : Nat) (w : World) (R S T : Nat → Prop) (pre : List (List Int)) (W : World) : Prop :=
  (∀ k, S k ∨ T k → Bx < k ∧ k < W.heap.size) ∧ (∃ u vs, Boxed W Bx 35 u ∧ W.ownsRow (Bx + 1) 24 1 u pre.length vs ∧ (∀ g, u.ownBlock = some g → ¬ S g ∧ ¬ R g ∧ ¬ T g) ∧ vs.length = pre.length ∧
    ∀ (i : Nat) (v : Value) (x : List Int), vs[i]? = some v → pre[i]? = some x → Piece S Bx u W v x) ∧ Below n0 w W
theorem Piece.same {S S' : Nat → Prop} {Bx : Nat} {u u' : Value} {W W' : World} {v : Value} {x : List Int} (h : Piece S Bx u W v x) (hs : W.heap.size ≤ W'.heap.size) (hb : ∀ g, g < W.heap.size → ¬ S g → g ≠ Bx → u.ownBlock ≠ some g → W'.heap[g]? = W.heap[g]?) (hS : ∀ g, g < W.heap.size → ¬ S g → ¬ S' g) (hu : ∀ g, g < W.heap.size → u.ownBlock ≠ some g → u'.ownBlock ≠ some g) : Piece S' Bx u' W' v x := by
  obtain ⟨g, off, rfl, h1, h0, h2, h3, h4, h5⟩ := h
  exact ⟨g, off, rfl, bytes_of_block h1 (hb g h5 h2 h3 h4), h0, hS g h5 h2, h3, hu g h5 h4, Nat.lt_of_lt_of_le h5 hs⟩
theorem RowT.out {n0 Bx : Nat} {w A A' : World} {R S T : Nat → Prop} {pre : List (List Int)} (h : RowT n0 Bx w R S T pre A) (ho : Out S A A') (hn : n0 ≤ Bx) (hw : n0 ≤ w.heap.size) : RowT n0 Bx w R S T pre A' := by
  obtain ⟨hS, ⟨u, vs, hu, hr, hg, hl, hp⟩, hb⟩ := h
  refine ⟨fun k hk => ⟨(hS k hk).1, Nat.lt_of_lt_of_le (hS k hk).2 ho.size⟩, ⟨u, vs, ?_, own_out ho (fun g e => (hg g e).1) hr, hg, hl, fun i v x h1 h2 => (hp i v x h1 h2).same ho.size (fun g h3 h4 _ _ => ho.block g h3 h4) (fun _ _ h => h) (fun _ _ h => h)⟩, ho.below hb hw (fun k hk => by have := (hS k (.inl hk)).1; omega)⟩
  exact (ho.block Bx hu.lt (fun e => by have := (hS _ (.inl e)).1; omega)).trans hu
theorem RowT.grow {n0 Bx : Nat} {w A A' : World} {R S T S' T' : Nat → Prop} {pre : List (List Int)} (h : RowT n0 Bx w R S T pre A) (hgr : Grew S T S' T' A A') (hn : n0 ≤ Bx) (hw : n0 ≤ w.heap.size) : RowT n0 Bx w R S' T' pre A' := by
  obtain ⟨hS, ⟨u, vs, hu, hr, hg, hlv, hp⟩, hb⟩ := h
  have ho := hgr.b
  have hl := hu.lt
  have hsz := ho.size
  refine ⟨fun k hk => ?_, ⟨u, vs, ?_, ?_, fun g e => ⟨fun hk => ?_, (hg g e).2.1, fun hk => ?_⟩, hlv, fun i v x h1 h2 => (hp i v x h1 h2).same hsz (fun g h3 _ _ _ => ho.block g h3) (fun g h3 h4 h5 => ?_) (fun _ _ h => h)⟩, hb.trans (ho.mono (by have := hb.size; omega))⟩
  · rcases hk with hk | hk
    · rcases hgr.s k hk with hk | hk
      · have := hS k (.inl hk); omega
      · omega
    · rcases hgr.t k hk with hk | hk
      · have := hS k (.inr hk); omega
      · omega
  · exact (ho.block Bx hl).trans hu
  · exact own_out (Out.of_below (S := S) ho) (fun g e => (hg g e).1) hr
  · rcases hgr.s g hk with hk | hk
    · exact (hg g e).1 hk
    · have := own_block_lt hr e; omega
  · rcases hgr.t g hk with hk | hk
    · exact (hg g e).2.2 hk
    · have := own_block_lt hr e; omega
  · rcases hgr.s g h5 with h5 | h5
    · exact h4 h5
    · omega
theorem RowT.push {n0 Bx : Nat} {w W w1 : World} {R S T : Nat → Prop} {pre : List (List Int)} {x : List Int} {xv u v' : Value} {vs : List Value} {tmp : Obj} (hS : ∀ k, S k ∨ T k → Bx < k ∧ k < W.heap.size) (hu : Boxed W Bx 35 u) (hr : W.ownsRow (Bx + 1) 24 1 u pre.length vs) (hg : ∀ g, u.ownBlock = some g → ¬ S g ∧ ¬ R g ∧ ¬ T g) (hl : vs.length = pre.length) (hp : ∀ (i : Nat) (v : Value) (x : List Int), vs[i]? = some v → pre[i]? = some x → Piece S Bx u W v x) (hb : Below n0 w W)
    (hn : n0 ≤ Bx) (hw : n0 ≤ w.heap.size) (hR : ∀ k, R k → k < W.heap.size ∧ k ≠ Bx) (hx : Piece S Bx u W xv x)
    (hown : w1.ownsRow (Bx + 1) 24 1 v' (pre.length + 1) (vs ++ [xv])) (hgrow : (W.alloc tmp).grownBy w1 u.ownBlock) (hat : v'.ownBlock = u.ownBlock ∨ v'.ownBlock = some (W.alloc tmp).heap.size) :
    Boxed w1 Bx 35 u ∧ Keep (Kp R S T) W (w1.setCell ⟨Bx, 0, none⟩ v') ∧ RowT n0 Bx w R S T (pre ++ [x]) (w1.setCell ⟨Bx, 0, none⟩ v') := by
  have hlt := hu.lt
  have hne : some Bx ≠ u.ownBlock := fun e => by have := (own_block_lt hr e.symm).1; omega
  have hv1 : Boxed w1 Bx 35 u := (hu.alloc tmp).kept hgrow hne
  have hs1 : W.heap.size + 1 ≤ w1.heap.size := by have := hgrow.size; simpa using this
  have hne' : v'.ownBlock ≠ some Bx := fun e => by have := (own_block_lt hown e).1; omega
  have hblk : ∀ k, k < W.heap.size → k ≠ Bx → u.ownBlock ≠ some k → (w1.setCell ⟨Bx, 0, none⟩ v').heap[k]? = W.heap[k]? := fun k h1 h2 h3 => by
    rw [Below.heap_setCell _ _ _ _ h2, hgrow.block k (by simp; omega) (fun e => h3 e.symm), Below.heap_alloc _ _ _ h1]
  have hKp : ∀ k, Kp R S T k → k < W.heap.size ∧ k ≠ Bx ∧ u.ownBlock ≠ some k := by
    rintro k (hk | hk | hk)
    · exact ⟨(hR k hk).1, (hR k hk).2, fun e => (hg k e).2.1 hk⟩
    · exact ⟨(hS k (.inl hk)).2, by have := (hS k (.inl hk)).1; omega, fun e => (hg k e).1 hk⟩
    · exact ⟨(hS k (.inr hk)).2, by have := (hS k (.inr hk)).1; omega, fun e => (hg k e).2.2 hk⟩
  have hu' : ∀ g, g < W.heap.size → u.ownBlock ≠ some g → v'.ownBlock ≠ some g := fun g h1 h2 e => by
    rcases hat with hat | hat
    · exact h2 (hat ▸ e)
    · rw [hat] at e
      have e2 : W.heap.size + 1 = g := by simpa using e
      omega
  have hsz : W.heap.size ≤ (w1.setCell ⟨Bx, 0, none⟩ v').heap.size := by simp [World.setCell]; omega
  have hpc : ∀ v y, Piece S Bx u W v y → Piece S Bx v' (w1.setCell ⟨Bx, 0, none⟩ v') v y := fun v y h => h.same hsz (fun g h1 _ h3 h4 => hblk g h1 h3 h4) (fun _ _ h => h) hu'
  refine ⟨hv1, ⟨hsz, fun k hk => hblk k (hKp k hk).1 (hKp k hk).2.1 (hKp k hk).2.2⟩, fun k hk => ⟨(hS k hk).1, by have := (hS k hk).2; omega⟩, ⟨v', vs ++ [xv], hv1.set v', ?_, fun g e => ?_, by simp [hl], fun i v y h1 h2 => ?_⟩, ?_⟩
  · have := own_set1 (o := 0) hown hne' v'
    simpa using this
  · rcases hat with hat | hat
    · exact hg g (hat ▸ e)
    · rw [hat] at e
      have e2 : W.heap.size + 1 = g := by simpa using e
      refine ⟨fun h => by have := (hS g (.inl h)).2; omega, fun h => by have := (hR g h).1; omega, fun h => by have := (hS g (.inr h)).2; omega⟩
  · by_cases hi : i < vs.length
    · rw [List.getElem?_append_left hi] at h1
      rw [List.getElem?_append_left (by omega)] at h2
      exact hpc v y (hp i v y h1 h2)
    · have h1' := (List.getElem?_eq_some_iff.1 h1).1
      simp at h1'
      have e : i = vs.length := by omega
      subst e
      rw [List.getElem?_append_right (Nat.le_refl _)] at h1
      rw [hl, List.getElem?_append_right (Nat.le_refl _)] at h2
      simp at h1 h2
      subst h1 h2
      exact hpc _ _ hx
  · refine (hb.trans ((Below.refl n0 W).alloc (by have := hb.size; omega) tmp)).trans ?_
    refine ((Below.refl n0 _).grown hgrow (by have := hb.size; simp; omega) (fun k e => by have := (own_block_lt hr e).1; omega)).setCell (p := ⟨Bx, 0, none⟩) hn _
end Go.Proofs.Ytfeioclnhnipmaa
