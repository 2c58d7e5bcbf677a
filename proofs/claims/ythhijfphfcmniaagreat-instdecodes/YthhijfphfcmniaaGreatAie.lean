import Derived.Test.YthhijfphfcmniaaGreatAae
import Derived.Test.YthhijfphfcmniaaGreatOge
import Derived.Test.YthhijfphfcmniaaGreatOze
import Derived.Deep.RegionHeld3
import Derived.Deep.RegionWith
import Derived.Deep.MidRow
import Derived.Deep.Cut
import Derived.Laws.CopyOwn
set_option maxRecDepth 100000
set_option maxHeartbeats 8000000
set_option linter.unusedVariables false
set_option linter.unusedSimpArgs false
namespace Go.Proofs.YthhijfphfcmniaaGreat
open Go Go.RowKit
def OwnB (w : World) (base : Nat) (v : Value) (l : List Int) : Prop := w.ownsRow base 5 1 v l.length (u8s l) ∧ isB l
theorem OwnB.bytes {w : World} {base : Nat} {v : Value} {l : List Int} (h : OwnB w base v l) : Bytes w v l := Bytes.ofOwn h.1 h.2
theorem OwnB.later {w w' : World} {base : Nat} {v : Value} {l : List Int} (h : OwnB w base v l) (hb : Below w.heap.size w w') : OwnB w' base v l := by
  refine ⟨⟨h.1.1, ?_⟩, h.2⟩
  rcases h.1.2 with hn | ⟨g, cap, cur, rfl, hbg, hg, rest⟩
  · exact .inl hn
  · refine .inr ⟨g, cap, cur, rfl, hbg, ?_, rest⟩
    rw [hb.block g (Array.getElem?_eq_some_iff.1 hg).1]
    exact hg
theorem OwnB.mono {w : World} {base base' : Nat} {v : Value} {l : List Int} (h : OwnB w base v l) (hb : base' ≤ base) : OwnB w base' v l := by
  refine ⟨⟨h.1.1, ?_⟩, h.2⟩
  rcases h.1.2 with hn | ⟨g, cap, cur, rfl, hbg, rest⟩
  · exact .inl hn
  · exact .inr ⟨g, cap, cur, rfl, Nat.le_trans hb hbg, rest⟩
theorem OwnB.form {w : World} {base : Nat} {v : Value} {l : List Int} (h : OwnB w base v l) (h0 : 0 < l.length) : ∃ g cap, v = .slice (some ⟨g, 0, none⟩) l.length cap ∧ base ≤ g ∧ g < w.heap.size ∧ l.length ≤ cap ∧ cap ≤ maxLen := by
  rcases h.1.2 with ⟨_, hn⟩ | ⟨g, cap, cur, rfl, hbg, hg, hnc, hcm, _⟩
  · omega
  · exact ⟨g, cap, rfl, hbg, (Array.getElem?_eq_some_iff.1 hg).1, hnc, hcm⟩
theorem OwnB.grow {w w' : World} {base : Nat} {v v' : Value} {l m : List Int} (h : OwnB w base v l) (hm : isB m) (ho : w'.ownsRow base 5 1 v' (l.length + m.length) (u8s l ++ u8s m)) : OwnB w' base v' (l ++ m) := by
  refine ⟨?_, h.2.app hm⟩
  rw [u8s_append, List.length_append]
  exact ho
theorem OwnB.growB {w w' : World} {base : Nat} {v : Value} {l : List Int} {n : Nat} (h : OwnB w base v l) (hg : w.grownBy w' v.ownBlock) (hn : n ≤ base) (hs : n ≤ w.heap.size) : Below n w w' :=
  below_grown hg n hs (fun k hk => Nat.le_trans hn (h.1.lt k hk).1)
theorem isB_zeros (m : Nat) : isB (List.replicate m (0 : Int)) := by
  intro z hz
  rw [(List.mem_replicate.1 hz).2]
  omega
theorem step_copy_ownB {P : Program} {w : World} {ops : Array Oper} {o : Oper} {a : Act} {K : Act → World → Prop} {Q : Exit → Act → World → Prop} {E : Prop} (hgd : o.guard = none) (d s : Operand) (t : TypeId)
    (ho : o.op = .call { callee := .builtin .copy, args := #[d, s], argTypes := #[t, t] }) (hu : P.underlying t = some (.slice 5)) (hsz : (P.info? 5).map (·.size) = some 1)
    (base g cap : Nat) (l m : List Int) (u : Value) (dc : Nat) (hd : a.eval d = .slice (some ⟨g, 2, none⟩) (l.length - 2) dc) (hs : a.eval s = u) (hB : Bytes w u m) (hm : m.length = 2)
    (hown : OwnB w base (.slice (some ⟨g, 0, none⟩) l.length cap) l) (h4 : 4 ≤ l.length)
    (h : ∀ w', OwnB w' base (.slice (some ⟨g, 0, none⟩) l.length cap) (l.take 2 ++ m ++ l.drop 4) → Below base w w' → K (a.put o.dst (goInt 2)) w') :
    if Region.wanted o (yielded ops a.tmps) = true then Oper.wp P o a w K Q else E := by
  obtain ⟨sp, scap, rfl, h1, h2, h3, h4', h5⟩ := hB
  rcases hown.1.2 with ⟨_, hn⟩ | ⟨g', cap', cur, e, hbg, hg, hnc, hcm, hcs, htk⟩
  · omega
  · injection e with e1 e2 e3
    injection e1 with e1
    injection e1 with e1
    subst e1 e3
    have hcl : cur.toList.length = cap := by simp; omega
    refine step_copy_splice hgd d s t t ho 5 hu hsz (some ⟨g, 2, none⟩) sp (l.length - 2) dc m.length scap hd hs g 2 cur.toList 5 (by simpa using hg) (u8s m) (by rw [u8s_length, hm]; exact (Nat.min_eq_left (by omega : 2 ≤ l.length - 2)).symm) (fun _ => ⟨rfl, ?_⟩) (by rw [u8s_length, hm, hcl]; omega) (u8s_one m) base w (Below.refl _ _) hbg ?_
    · cases sp with
      | none => exact absurd (h4' rfl) (by omega)
      | some ad =>
        refine ⟨ad, rfl, ?_⟩
        intro j v hv
        unfold u8s at hv
        rw [List.getElem?_map] at hv
        cases hj : m[j]? with
        | none => rw [hj] at hv; cases hv
        | some z => rw [hj] at hv; cases hv; exact h5 ad rfl j z hj
    · intro w' hw' bw
      rw [u8s_length, hm]
      have hl2 : (l.take 2 ++ m ++ l.drop 4).length = l.length := by simp [hm]; omega
      refine h w' ⟨?_, ?_⟩ bw
      · rw [hl2]
        refine ⟨by rw [u8s_length, hl2]; omega, .inr ⟨g, cap, _, rfl, hbg, hw', hnc, hcm, ?_, ?_⟩⟩
        · simp [splice, u8s_length, hm]; omega
        · have e0 : u8s (l.take 2 ++ m ++ l.drop 4) = (u8s l).take 2 ++ u8s m ++ (u8s l).drop 4 := by unfold u8s; simp
          rw [e0, ← htk]
          simp only [splice, u8s_length, hm, Nat.mul_one]
          apply List.ext_getElem?
          intro j
          simp only [List.getElem?_take, List.getElem?_append, List.length_append, List.length_take, List.getElem?_drop, u8s_length, hm, hcl]
          repeat' split
          all_goals first | rfl | omega | skip
          all_goals first | (congr 1; omega) | skip
      · intro z hz
        rcases List.mem_append.1 hz with h6 | h6
        · rcases List.mem_append.1 h6 with h7 | h7
          · exact hown.2 z (List.mem_of_mem_take h7)
          · exact h3 z h7
        · exact hown.2 z (List.mem_of_mem_drop h6)
end Go.Proofs.YthhijfphfcmniaaGreat
