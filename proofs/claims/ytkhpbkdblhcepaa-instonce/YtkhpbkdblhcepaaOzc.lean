import Derived.Test.YtkhpbkdblhcepaaOz
import Derived.Deep.RegionHeld3
import Derived.Deep.RegionWith
import Derived.Deep.MidRow
import Derived.Deep.Cut
namespace Go.Proofs.Ytkhpbkdblhcepaa
open Go Go.RowKit
set_option linter.unusedVariables false
set_option linter.unusedSimpArgs false

theorem step_append_ownB {P : Program} {w : World} {ops : Array Oper} {o : Oper} {a : Act} {K : Act → World → Prop} {Q : Exit → Act → World → Prop} {E : Prop} (hgd : o.guard = none) (s x : Operand) (t : TypeId)
    (ho : o.op = .call { callee := .builtin .append, args := #[s, x], argTypes := #[t, t] })
    (base : Nat) (e : TypeId) (i : TypeInfo) (ht : P.underlying t = some (.slice e)) (hi : P.info? e = some i) (hz : i.zero = some (.int .u8 0))
    (hsize : i.size = 1) (hby : i.bytes = 1)
    (v : Value) (n : Nat) (xs : List Value) (hs : a.eval s = v) (hown : w.ownsRow base e 1 v n xs)
    (u : Value) (l : List Int) (hx : a.eval x = u) (hB : Bytes w u l)
    (h63 : n + l.length ≤ 140737488355328) (hbase : base ≤ w.heap.size)
    (h : ∀ v' w', w'.ownsRow base e 1 v' (n + l.length) (xs ++ u8s l) → w.grownBy w' v.ownBlock → K (a.put o.dst v') w') :
    if Region.wanted o (yielded ops a.tmps) = true then Oper.wp P o a w K Q else E := by
  have hw : Region.wanted o (yielded ops a.tmps) = true := by simp [Region.wanted, hgd]
  rw [if_pos hw]
  exact wp_append_ownB s x t ho base e i ht hi hz hsize hby v n xs hs hown u l hx hB h63 hbase h
theorem bytes_app {w : World} {base : Nat} {e : TypeId} {v : Value} {l m : List Int} (h : w.ownsRow base e 1 v (l.length + m.length) (u8s l ++ u8s m)) (hl : isB l) (hm : isB m) : Bytes w v (l ++ m) := by
  refine Bytes.ofOwn (base := base) (e := e) ?_ (fun z hz => ?_)
  · have e1 : u8s (l ++ m) = u8s l ++ u8s m := by simp [u8s]
    rw [e1, List.length_append]; exact h
  · rcases List.mem_append.1 hz with h1 | h1
    · exact hl z h1
    · exact hm z h1
theorem ab_grown {w w' : World} {row : Option Nat} {g : Nat} {ty : TypeId} {cs : List Value} (h : AB w g ty cs) (hg : w.grownBy w' row) (hne : ∀ k, row = some k → k ≠ g) : AB w' g ty cs := by
  have hlt := h.lt
  unfold AB at *
  rw [← h]
  exact hg.block g hlt (fun e => hne g e.symm rfl)


end Go.Proofs.Ytkhpbkdblhcepaa
