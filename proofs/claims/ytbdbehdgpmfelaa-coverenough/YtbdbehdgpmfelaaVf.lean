import Derived.Test.YtbdbehdgpmfelaaVe
import Derived.Test.YtbdbehdgpmfelaaXf
import Derived.Maps.AppendAt
import Derived.Great.BuildSlice
import Derived.Great.FillDense
namespace Go.Proofs.Ytbdbehdgpmfelaa
open Go Go.RowKit
set_option linter.unusedVariables false
set_option linter.unusedSimpArgs false

theorem infoC : (Try.prog.info? 28).map (fun i => (i.zero, i.size, i.bytes)) = some (some (.agg (tdc z24q).toArray), 96, 768) := by kernel_rfl
/-- a slice literal of one array -/
theorem wpList_build1 {P : Program} {ops : Array Oper} {rest : List Oper} {o : Oper} {a : Act} {w : World} {Q : Exit → Act → World → Prop} (hg : o.guard = none) (t e : TypeId) (x : Operand) (ho : o.op = .buildSlice t 1 #[(0, x)])
    (cs : List Value) (z : Value) (n by' : Nat) (hx : a.eval x = .agg cs.toArray) (hu : P.underlying t = some (.slice e)) (hi : (P.info? e).map (fun i => (i.zero, i.size, i.bytes)) = some (some z, n, by')) (hz : z.cells.size = n) (hn : cs.length = n) (h0 : 0 < n) (h24 : n ≤ 2 ^ 24)
    (h : wpList P ops Q rest (a.put o.dst (.slice (some ⟨w.heap.size, 0, none⟩) 1 1)) (w.alloc (.cells cs.toArray e))) : wpList P ops Q (o :: rest) a w := by
  obtain ⟨i0, hi0, hz0, hz1, hz2⟩ := info_parts hi
  refine wpList_buildSlice hg t e 1 _ ho cs.toArray i0 z hu hi0 hz0 (by rw [hz1]; omega) (by rw [hz1]; omega) ?_ h
  have := Great.fill_whole (s := n) h0 [.agg cs.toArray] ((Array.range (1 * i0.size)).map (z.cells[· % z.cells.size]!)) (by simp [Value.cells, hn]) (by simp [hz1])
  rw [hz1] at this ⊢
  simpa [hx, Value.cells] using this
/-- a box holds a slice whose row is the call's own: these cubes -/
def RowI (n0 Bx : Nat) (w : World) (R S : Nat → Prop) (pre : List (List Q4)) (W : World) : Prop :=
  (∀ k, S k → Bx < k ∧ k < W.heap.size) ∧ (∃ u, Boxed W Bx 29 u ∧ W.ownsRow (Bx + 1) 28 96 u pre.length (pre.flatMap tdc) ∧ ∀ g, u.ownBlock = some g → ¬ S g ∧ ¬ R g) ∧ Below n0 w W
theorem own_out {S : Nat → Prop} {w w' : World} {base : Nat} {e : TypeId} {size : Nat} {v : Value} {n : Nat} {xs : List Value} (h : Out S w w') (hg : ∀ g, v.ownBlock = some g → ¬ S g) (ho : w.ownsRow base e size v n xs) : w'.ownsRow base e size v n xs := by
  refine ⟨ho.1, ?_⟩
  rcases ho.2 with k | ⟨g, cap, cur, rfl, hb, hk, r⟩
  · exact .inl k
  · exact .inr ⟨g, cap, cur, rfl, hb, (h.block g (Array.getElem?_eq_some_iff.1 hk).1 (hg g rfl)).trans hk, r⟩
theorem own_lt {w : World} {base : Nat} {e : TypeId} {size : Nat} {v : Value} {n g : Nat} {xs : List Value} (ho : w.ownsRow base e size v n xs) (hg : v.ownBlock = some g) : base ≤ g ∧ g < w.heap.size := by
  rcases ho.2 with ⟨rfl, -⟩ | ⟨g', cap, cur, rfl, hb, hk, r⟩
  · cases hg
  · have e2 : g' = g := by simpa [Value.ownBlock] using hg
    subst e2; exact ⟨hb, (Array.getElem?_eq_some_iff.1 hk).1⟩
theorem RowI.out {n0 Bx : Nat} {w A A' : World} {R S : Nat → Prop} {pre : List (List Q4)} (h : RowI n0 Bx w R S pre A) (ho : Out S A A') (hn : n0 ≤ Bx) (hw : n0 ≤ w.heap.size) : RowI n0 Bx w R S pre A' := by
  obtain ⟨hS, ⟨u, hu, hr, hg⟩, hb⟩ := h
  refine ⟨fun k hk => ⟨(hS k hk).1, Nat.lt_of_lt_of_le (hS k hk).2 ho.size⟩, ⟨u, ?_, own_out ho (fun g e => (hg g e).1) hr, hg⟩, ho.below hb hw (fun k hk => by have := (hS k hk).1; omega)⟩
  exact (ho.block Bx hu.lt (fun e => by have := (hS _ e).1; omega)).trans hu
theorem RowI.grow {n0 Bx : Nat} {w A A' : World} {R S : Nat → Prop} {pre : List (List Q4)} (h : RowI n0 Bx w R S pre A) (ho : Below A.heap.size A A') (hn : n0 ≤ Bx) (hw : n0 ≤ w.heap.size) : RowI n0 Bx w R (Grow S A A') pre A' := by
  obtain ⟨hS, ⟨u, hu, hr, hg⟩, hb⟩ := h
  have hl := hu.lt
  have hsz := ho.size
  refine ⟨fun k hk => ?_, ⟨u, ?_, ?_, fun g e => ⟨?_, (hg g e).2⟩⟩, hb.trans (ho.mono (by have := hb.size; omega))⟩
  · rcases hk with hk | hk
    · have := hS k hk; omega
    · omega
  · exact (ho.block Bx hl).trans hu
  · exact own_out (Out.of_below (S := S) ho) (fun g e => (hg g e).1) hr
  · rintro (hk | hk)
    · exact (hg g e).1 hk
    · have := own_lt hr e; omega
theorem RowI.push {n0 Bx : Nat} {w W w1 : World} {R S : Nat → Prop} {pre : List (List Q4)} {x : List Q4} {u v' : Value} {tmp : Obj} (hS : ∀ k, S k → Bx < k ∧ k < W.heap.size) (hu : Boxed W Bx 29 u) (hr : W.ownsRow (Bx + 1) 28 96 u pre.length (pre.flatMap tdc)) (hg : ∀ g, u.ownBlock = some g → ¬ S g ∧ ¬ R g) (hb : Below n0 w W)
    (hn : n0 ≤ Bx) (hw : n0 ≤ w.heap.size) (hR : ∀ k, R k → k < W.heap.size ∧ k ≠ Bx)
    (hown : w1.ownsRow (Bx + 1) 28 96 v' (pre.length + 1) (pre.flatMap tdc ++ tdc x)) (hgrow : (W.alloc tmp).grownBy w1 u.ownBlock) (hat : v'.ownBlock = u.ownBlock ∨ v'.ownBlock = some (W.alloc tmp).heap.size) :
    Boxed w1 Bx 29 u ∧ Keep (Both R S) W (w1.setCell ⟨Bx, 0, none⟩ v') ∧ RowI n0 Bx w R S (pre ++ [x]) (w1.setCell ⟨Bx, 0, none⟩ v') := by
  have hl := hu.lt
  have hne : some Bx ≠ u.ownBlock := fun e => by have := (own_lt hr e.symm).1; omega
  have hv1 : Boxed w1 Bx 29 u := (hu.alloc tmp).kept hgrow hne
  have hs1 : W.heap.size + 1 ≤ w1.heap.size := by have := hgrow.size; simpa using this
  have hne' : v'.ownBlock ≠ some Bx := fun e => by have := (own_lt hown e).1; omega
  refine ⟨hv1, ⟨by simp [World.setCell]; omega, fun k hk => ?_⟩, fun k hk => ⟨(hS k hk).1, by simp [World.setCell]; have := (hS k hk).2; omega⟩, ⟨v', hv1.set v', ?_, fun g e => ?_⟩, ?_⟩
  · have hk1 : k < W.heap.size ∧ k ≠ Bx ∧ u.ownBlock ≠ some k := by
      rcases hk with hk | hk
      · exact ⟨(hR k hk).1, (hR k hk).2, fun e => (hg k e).2 hk⟩
      · exact ⟨(hS k hk).2, by have := (hS k hk).1; omega, fun e => (hg k e).1 hk⟩
    rw [Below.heap_setCell _ _ _ _ hk1.2.1, hgrow.block k (by simp; omega) (fun e => hk1.2.2 e.symm), Below.heap_alloc _ _ _ hk1.1]
  · have := own_set (o := 0) hown hne' v'
    simpa using this
  · rcases hat with hat | hat
    · exact hg g (hat ▸ e)
    · rw [hat] at e
      have e2 : W.heap.size + 1 = g := by simpa using e
      refine ⟨fun h => by have := (hS g h).2; omega, fun h => by have := (hR g h).1; omega⟩
  · refine (hb.trans ((Below.refl n0 W).alloc (by have := hb.size; omega) tmp)).trans ?_
    refine ((Below.refl n0 _).grown hgrow (by have := hb.size; simp; omega) (fun k e => by have := (own_lt hr e).1; omega)).setCell (p := ⟨Bx, 0, none⟩) hn _
theorem noOut {K : Act → World → Prop} : ¬ LetsOut (Exit.then K (fun _ _ _ => False)) := fun ⟨_, _, h⟩ => h
theorem noOutP {α : Type} {R S : Nat → Prop} {I : (Nat → Prop) → List α → World → Prop} {Ix : Code → (Nat → Prop) → List α → World → Prop} {xs : List α} {W : World} : ¬ LetsOut (postX R S I Ix xs W) := fun ⟨_, _, h⟩ => h
theorem noOutB {id : Nat} {Q : Exit → Act → World → Prop} (h : ¬ LetsOut Q) : ¬ LetsOut (Exit.inBlock id Q) := fun ⟨a, w, k⟩ => h ⟨a, w, k⟩
theorem pre_mem {α : Type} {pre L : List α} {x : α} (h : pre ++ [x] <+: L) : x ∈ L ∧ pre.length + 1 ≤ L.length := by
  obtain ⟨r, rfl⟩ := h
  exact ⟨by simp, by simp⟩
theorem news_alloc (W : World) (cs : List Value) (e : TypeId) : ∀ j u, cs[j]? = some u → (W.alloc (.cells cs.toArray e)).cell? ((⟨W.heap.size, 0, none⟩ : Addr).add j) = some u := by
  intro j u hu
  rw [Addr.add_lit, World.cell?_alloc_new]
  simpa using hu
theorem szC0 : (tdc z24q).length = 96 := by rw [tdc_length, z24q_len]
theorem lenC {l : List Q4} (h : isC l) : (tdc l).length = 96 := by rw [tdc_length, h.1]
theorem noOutT {K : Act → World → Prop} {Q : Exit → Act → World → Prop} (h : ¬ LetsOut Q) : ¬ LetsOut (Exit.then K Q) := fun ⟨a, w, k⟩ => h ⟨a, w, k⟩


end Go.Proofs.Ytbdbehdgpmfelaa
