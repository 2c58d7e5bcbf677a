import Derived.Test.YtmpfpolanndakaaK
import Derived.WalkKit
import Derived.WalkSpells
import Derived.WalkLawsBesides
import Derived.Below
import Derived.Handy
namespace Go.Proofs.Ytmpfpolanndakaa
open Go Go.RowKit
set_option linter.unusedVariables false
set_option linter.unusedSimpArgs false

theorem wpList_wanted {P : Program} {w : World} {ops : Array Oper} {rest : List Oper} {o : Oper} {a : Act} {Q : Exit → Act → World → Prop}
    (hw : Region.wanted o (yielded ops a.tmps) = true)
    (h : ∀ K : Act → World → Prop, (∀ a w, wpList P ops Q rest a w → K a w) → o.wp P a w K Q) : wpList P ops Q (o :: rest) a w :=
  wpList_step fun K hK => by rw [if_pos hw]; exact h K hK

/-- bytes that were just laid, appended to what the call owns -/
theorem wpList_append_lit {P : Program} {ops : Array Oper} {rest : List Oper} {o : Oper} {a : Act} {Q : Exit → Act → World → Prop} (s x : Operand) (t : TypeId)
    (ho : o.op = .call { callee := .builtin .append, args := #[s, x], argTypes := #[t, t] })
    (e : TypeId) (i : TypeInfo) (ht : P.underlying t = some (.slice e)) (hi : P.info? e = some i) (hz : i.zero = some (.int .u8 0))
    (hsize : i.size = 1) (hby : i.bytes = 1)
    (base : Nat) (v : Value) (n : Nat) (xs : List Value) (hs : a.eval s = v) (w0 : World) (hown : w0.ownsRow base e 1 v n xs)
    (l : List Int) (cells : Array Value) (hc : cells = (u8s l).toArray) (m : Nat) (hm : m = l.length) (hx : a.eval x = .slice (some ⟨w0.heap.size, 0, none⟩) m m) (hw : Region.wanted o (yielded ops a.tmps) = true)
    (h63 : n + l.length ≤ 140737488355328) (hbase : base ≤ w0.heap.size)
    (h : ∀ v' w', w'.ownsRow base e 1 v' (n + l.length) (xs ++ u8s l) → Below base w0 w' → wpList P ops Q rest (a.put o.dst v') w') : wpList P ops Q (o :: rest) a (w0.alloc (.cells cells e)) := by
  subst hc hm
  refine wpList_wanted hw fun K hK => ?_
  refine wp_append_own (w0.alloc (.cells (u8s l).toArray e)) s x t ho base e i (.int .u8 0) 1 1 ht hi hz hsize hby rfl (by decide) v n xs hs (hown.alloc _) ⟨w0.heap.size, 0, none⟩ l.length l.length (u8s l) hx (by simp [u8s]) ?_ (u8s_one l) (by unfold maxLen; omega) (by omega) (by simp; omega) (fun v' w' a1 a2 _ => hK _ _ (h v' w' a1 ?_))
  · intro j u hu
    rw [Addr.add_lit, World.cell?_alloc_new]
    simpa using hu
  · have hlt := hown.lt
    exact (by go_grown : Below base w0 (w0.alloc (.cells (u8s l).toArray e))).trans ((Below.refl base _).grown a2 (by simp; omega) (fun k hk => (hlt k hk).1))

end Go.Proofs.Ytmpfpolanndakaa
