import Derived.Test.YtcfoieaejpdleaaNq
import Derived.Test.YtcfoieaejpdleaaNl
import Derived.Deep.RegionHeld3
import Derived.Deep.RegionWith
import Derived.Deep.MidRow
import Derived.Deep.Cut
import Derived.WalkMore
namespace Go.Proofs.Ytcfoieaejpdleaa
open Go Go.RowKit
set_option linter.unusedVariables false
set_option linter.unusedSimpArgs false
attribute [local go_sem] Oper.semAt_some

theorem headF_be2 (kind xid : Int) (body : List Int) (h : body.length ≤ 65527) : be2 (headF kind xid body) 2 = ((headF kind xid body).length : Int) := by
  have e : headF kind xid body = 4 % 256 :: kind % 256 :: (8 + (body.length : Int)) / 256 % 256 :: (8 + (body.length : Int)) % 256 :: (spl xid 4 ++ body) := by simp [headF, h3F, h2F, h1F, spl]
  rw [headF_len]
  unfold be2
  rw [if_pos (by rw [headF_len]; omega), e]
  simp
  omega
theorem headF_drop (kind xid : Int) (body : List Int) : (headF kind xid body).drop 8 = body := List.drop_left' (h3F_len kind xid body.length)
/-- bytes of one's own -/
def OwnE (W : World) (v : Value) (x : List Int) : Prop := W.ownsRow 0 5 1 v x.length (u8s x) ∧ isB x
theorem OwnE.bytes {W : World} {v : Value} {x : List Int} (h : OwnE W v x) : Bytes W v x := Bytes.ofOwn h.1 h.2
theorem own_laterE {w w' : World} {base n : Nat} {e : TypeId} {v : Value} {xs : List Value} (h : w.ownsRow base e 1 v n xs) (hb : Below w.heap.size w w') : w'.ownsRow base e 1 v n xs := by
  refine ⟨h.1, ?_⟩
  rcases h.2 with hn | ⟨g, cap, cur, rfl, hbg, hg, rest⟩
  · exact .inl hn
  · refine .inr ⟨g, cap, cur, rfl, hbg, ?_, rest⟩
    rw [hb.block g (Array.getElem?_eq_some_iff.1 hg).1]
    exact hg
theorem OwnE.later {w w' : World} {v : Value} {x : List Int} (h : OwnE w v x) (hb : Below w.heap.size w w') : OwnE w' v x := ⟨own_laterE h.1 hb, h.2⟩
theorem OwnE.beside {w w' : World} {base2 n : Nat} {v r : Value} {xs : List Value} {l : List Int} (h : OwnE w v l) (hr : w.ownsRow base2 22 1 r n xs) (hg : w.grownBy w' r.ownBlock) : OwnE w' v l := by
  refine ⟨⟨h.1.1, ?_⟩, h.2⟩
  rcases h.1.2 with hn | ⟨g, cap, cur, rfl, hbg, hc, rest⟩
  · exact .inl hn
  · refine .inr ⟨g, cap, cur, rfl, hbg, ?_, rest⟩
    rcases hr.2 with ⟨rfl, _⟩ | ⟨g2, cap2, cur2, rfl, hbg2, hc2, _⟩
    · rw [hg.block g (Array.getElem?_eq_some_iff.1 hc).1 (fun e => by cases e)]
      exact hc
    · have hne : g ≠ g2 := by
        rintro rfl
        rw [hc] at hc2
        cases hc2
      rw [hg.block g (Array.getElem?_eq_some_iff.1 hc).1 (fun e => by injection e with e; exact hne e)]
      exact hc
/-- slices of bytes that are one's own, in a row of one's own -/
def RowsE (W : World) (base : Nat) (u : Value) (M : List (List Int)) (vs : List Value) : Prop := W.ownsRow base 22 1 u M.length vs ∧ vs.length = M.length ∧ ∀ (i : Nat) (v : Value) (x : List Int), vs[i]? = some v → M[i]? = some x → OwnE W v x ∧ ∃ a c, v = .slice a x.length c
theorem RowsE.later {w w' : World} {base : Nat} {u : Value} {M : List (List Int)} {vs : List Value} (h : RowsE w base u M vs) (hb : Below w.heap.size w w') : RowsE w' base u M vs := ⟨own_laterE h.1 hb, h.2.1, fun i v x h1 h2 => ⟨(h.2.2 i v x h1 h2).1.later hb, (h.2.2 i v x h1 h2).2⟩⟩
theorem RowsE.rows {w : World} {base : Nat} {u : Value} {M : List (List Int)} {vs : List Value} (h : RowsE w base u M vs) : RowsAt w u M := ⟨vs, ownsRow_base h.1 (Nat.zero_le _), h.2.1, fun i v x h1 h2 => ⟨(h.2.2 i v x h1 h2).1.bytes, (h.2.2 i v x h1 h2).2⟩⟩
theorem RowsE.push {w w' : World} {base : Nat} {u u' : Value} {M : List (List Int)} {vs : List Value} {v : Value} {x : List Int} (h : RowsE w base u M vs) (hx : OwnE w v x) (hf : ∃ a c, v = .slice a x.length c) (ho : w'.ownsRow base 22 1 u' (M.length + 1) (vs ++ [v])) (hg : w.grownBy w' u.ownBlock) : RowsE w' base u' (M ++ [x]) (vs ++ [v]) := by
  refine ⟨by rw [List.length_append]; exact ho, by rw [List.length_append, List.length_append, h.2.1]; rfl, fun i z y h1 h2 => ?_⟩
  by_cases hi : i < vs.length
  · rw [List.getElem?_append_left hi] at h1
    rw [List.getElem?_append_left (by rw [← h.2.1]; exact hi)] at h2
    exact ⟨(h.2.2 i z y h1 h2).1.beside h.1 hg, (h.2.2 i z y h1 h2).2⟩
  · have hi2 : i < (vs ++ [v]).length := (List.getElem?_eq_some_iff.1 h1).1
    have e : i = vs.length := by simp at hi2; omega
    subst e
    rw [List.getElem?_append_right (Nat.le_refl _), Nat.sub_self] at h1
    rw [h.2.1, List.getElem?_append_right (Nat.le_refl _), Nat.sub_self] at h2
    cases h1
    cases h2
    exact ⟨hx.beside h.1 hg, hf⟩
theorem RowsE.nil (w : World) (base : Nat) : RowsE w base (.slice none 0 0) [] [] := ⟨World.ownsRow_nil _ _ _ _, rfl, fun i v x h => by simp at h⟩
def heads (k x : Int) (M : List (List Int)) : List (List Int) := M.map (headF k x)
theorem heads_take (k x : Int) (M : List (List Int)) (j : Nat) (z : List Int) (h : M[j]? = some z) : heads k x (M.take (j + 1)) = heads k x (M.take j) ++ [headF k x z] := by
  unfold heads
  rw [List.take_add_one, h]
  simp
theorem heads_len (k x : Int) (M : List (List Int)) (j : Nat) (h : j ≤ M.length) : (heads k x (M.take j)).length = j := by
  unfold heads
  rw [List.length_map, List.length_take]
  omega
theorem heads_flat (k x : Int) : ∀ M : List (List Int), (∀ z ∈ M, z.length ≤ 400) → (heads k x M).flatten.length ≤ 408 * M.length := by
  intro M
  induction M with
  | nil => intro _; simp [heads]
  | cons z M ih =>
    intro h
    have h1 := ih (fun y hy => h y (List.mem_cons_of_mem _ hy))
    have h2 := h z (List.mem_cons_self ..)
    have h3 := headF_len k x z
    have e : (heads k x (z :: M)).flatten.length = (headF k x z).length + (heads k x M).flatten.length := by simp [heads]
    rw [e, h3, List.length_cons]
    omega
theorem anyL_no {M : List (List Int)} (h : anyL M = false) : ∀ z ∈ M, z.length ≤ 400 := fun z hz => by
  have := List.any_eq_false.1 h z hz
  simpa using this

set_option maxRecDepth 100000 in
set_option maxHeartbeats 8000000 in
theorem fb_dark (k x : Int) (u v : Value) (M : List (List Int)) (r : List Int) (w : World) (hM : RB w u M) (hr : Bytes w v r) (h : (20 < M.length) ∨ (M.length ≤ 20 ∧ anyL M = true) ∨ (M.length ≤ 20 ∧ anyL M = false ∧ 7 < r.length)) :
    Calls Try.prog 6 #[.int .u8 k, .int .u32 x, u, v] w fun e w' => e = .returned (.bool true) ∧ Below w.heap.size w w' := by
  have q := hide_ (cont400_any u M w hM)
  have hm := hr.big
  obtain ⟨ao, cap, rfl⟩ := hr.short
  obtain ⟨a, c, rfl, h1, h2, -⟩ := hM
  have hm2 : M.length ≤ 9223372036854775807 := by unfold maxLen at h2; omega
  clear hr h1 h2
  rcases h with h | ⟨h, hz⟩ | ⟨h, hz, hl⟩
  · have g : (20 : Int) < (M.length : Int) := by omega
    go_enter Try.func6, Try.ntmps6
    go_wp2_with (go_at_call 7; refine (awake16_any _).mono ?_; rintro e w9 ⟨rfl, b9⟩)
    go_ret
    exact ⟨rfl, b9⟩
  · have g : ¬ (20 : Int) < (M.length : Int) := by omega
    rw [hz] at q
    go_enter Try.func6, Try.ntmps6
    go_wp2_with (first | (go_at_call 19; refine q.out.mono ?_; rintro e w1 ⟨rfl, b1⟩) | (go_at_call 7; refine (awake16_any _).mono ?_; rintro e w9 ⟨rfl, b9⟩))
    go_ret
    exact ⟨rfl, b1.trans (b9.mono b1.size)⟩
  · have g : ¬ (20 : Int) < (M.length : Int) := by omega
    have g2 : (7 : Int) < (r.length : Int) := by omega
    rw [hz] at q
    go_enter Try.func6, Try.ntmps6
    go_wp2_with (first | (go_at_call 19; refine q.out.mono ?_; rintro e w1 ⟨rfl, b1⟩) | (go_at_call 7; refine (awake16_any _).mono ?_; rintro e w9 ⟨rfl, b9⟩))
    go_ret
    exact ⟨rfl, b1.trans (b9.mono b1.size)⟩

end Go.Proofs.Ytcfoieaejpdleaa
