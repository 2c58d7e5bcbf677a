import Derived.Test.YtcffebkebldjcaaEj
import Derived.Test.YtcffebkebldjcaaEh
import Derived.Test.YtcffebkebldjcaaEg
import Derived.Test.YtcffebkebldjcaaEf
import Derived.Deep.RegionHeld3
import Derived.Deep.RegionWith
import Derived.Deep.MidRow
import Derived.Deep.Cut
namespace Go.Proofs.Ytcffebkebldjcaa
open Go Go.RowKit
set_option linter.unusedVariables false
set_option linter.unusedSimpArgs false

theorem nodup_le (N : Nat) : ∀ l : List Int, l.Nodup → (∀ x ∈ l, 0 ≤ x ∧ x < (N : Int)) → l.length ≤ N := by
  induction N with
  | zero =>
    intro l _ h
    cases l with
    | nil => simp
    | cons x r => have := h x (by simp); omega
  | succ N ih =>
    intro l hn h
    by_cases hm : (N : Int) ∈ l
    · have h1 := ih (l.erase (N : Int)) (hn.erase _) (fun x hx => by
        have hx' := (hn.mem_erase_iff).1 hx
        have := h x hx'.2
        have hne := hx'.1
        omega)
      rw [List.length_erase_of_mem hm] at h1
      omega
    · have := ih l hn (fun x hx => by
        have h2 := h x hx
        have hne : x ≠ (N : Int) := fun e => hm (e ▸ hx)
        omega)
      omega
theorem mchk_nodup : ∀ (L pre : List O6), mchk pre L = none → (∀ o ∈ L, ∀ t ∈ pre, t.1 ≠ o.1) ∧ (L.map (·.1)).Nodup := by
  intro L
  induction L with
  | nil => intro pre _; exact ⟨fun o h => by simp at h, by simp⟩
  | cons x r ih =>
    intro pre h
    unfold mchk at h
    by_cases h1 : pre.any (fun t => decide (t.1 = x.1)) = true
    · rw [if_pos h1] at h; cases h
    · rw [if_neg h1] at h
      by_cases h2 : metB pre x.1 = true
      · rw [if_pos h2] at h
        obtain ⟨a1, a2⟩ := ih (pre ++ [x]) h
        have h3 : ∀ t ∈ pre, t.1 ≠ x.1 := by
          intro t ht e
          exact h1 (List.any_eq_true.2 ⟨t, ht, by simpa using e⟩)
        refine ⟨fun o ho t ht => ?_, ?_⟩
        · rcases List.mem_cons.1 ho with rfl | ho
          · exact h3 t ht
          · exact a1 o ho t (by simp [ht])
        · rw [List.map_cons, List.nodup_cons]
          refine ⟨fun hm => ?_, a2⟩
          obtain ⟨o, ho, e⟩ := List.mem_map.1 hm
          exact a1 o ho x (by simp) e.symm
      · rw [if_neg h2] at h; cases h
/-- parts that are right, no field twice, have at most 864 bytes -/
theorem encs_small {L : List O6} (h1 : L.any (fun t => !rgtO t) = false) (h2 : mchk [] L = none) : (encs L).length ≤ 1000 ∧ L.length ≤ 24 := by
  have hn := (mchk_nodup L [] h2).2
  have hl := nodup_le 24 (L.map (·.1)) hn (fun x hx => by
    obtain ⟨o, ho, rfl⟩ := List.mem_map.1 hx
    rw [List.any_eq_false] at h1
    have h3 := h1 o ho
    have h4 : rgtO o = true := by simpa using h3
    have h5 := rgt_fok h4
    unfold fok at h5
    simp only [Bool.and_eq_true, decide_eq_true_eq] at h5
    omega)
  rw [List.length_map] at hl
  have := encs_le L
  exact ⟨by omega, hl⟩
def MBad (l : List Int) (c : Int) : Prop := ∀ v w, Bytes w v l → Calls Try.prog 20 #[v] w fun e w' => e = .returned (.tuple #[.slice none 0 0, .int .i64 0, .agg #[.bool true, .int .i64 4, .int .i64 c]]) ∧ Below w.heap.size w w'
def MOk (l : List Int) (L : List O6) (N : Nat) : Prop := ∀ v w, Bytes w v l → Calls Try.prog 20 #[v] w fun e w' => (∃ r, e = .returned (.tuple #[r, .int .i64 ((r8 N : Nat) : Int), .agg #[.bool false, .int .i64 0, .int .i64 0]]) ∧ OxAt w' r L) ∧ Below w.heap.size w w'
theorem M_ok {l : List Int} {L : List O6} {N : Nat} (hN : be2 l 2 = (N : Int)) (h1 : be2 l 0 = 1) (h4 : 4 ≤ N) (hx : N ≤ 1004) (hle : r8 N ≤ l.length) (hp : POk ((l.take N).drop 4) L) (hc : mchk [] L = none) (hz : nzB ((l.take (r8 N)).drop N) = false) : MOk l L N := by
  intro v w hB
  obtain ⟨ao, cap, rfl, hr⟩ := hB
  have hB : Bytes w (.slice ao l.length cap) l := ⟨ao, cap, rfl, hr⟩
  have hg := r8_ge N
  obtain ⟨a1, s1, b1⟩ := bytes_mid hB 4 N h4 (by omega)
  obtain ⟨a2, s2, b2⟩ := bytes_mid hB N (r8 N) hg hle
  refine md_ok _ _ N L _ w (fun W hW => mh_f ao _ cap l N W (hB.later hW) hN (by omega) (by omega) hle h1 (by omega)) s1 (fun W hW => rp_ok _ _ L W (b1.later hW) (by simp; omega) hp) (by rw [hc]; rfl) (by omega) s2 (fun W hW => ?_)
  have := cont_any _ _ W (b2.later hW)
  rw [hz] at this
  exact this
theorem mdec_all {l : List Int} (hl : isB l) : (∃ c, MBad l c) ∨ ∃ L N, MOk l L N ∧ be2 l 2 = (N : Int) ∧ be2 l 0 = 1 ∧ 4 ≤ N ∧ N ≤ 1004 ∧ r8 N ≤ l.length ∧ POk ((l.take N).drop 4) L ∧ mchk [] L = none ∧ nzB ((l.take (r8 N)).drop N) = false := by
  have hr := be2_range hl 2
  obtain ⟨N, hN⟩ : ∃ N : Nat, be2 l 2 = (N : Int) := ⟨(be2 l 2).toNat, by omega⟩
  have fm : ∀ v w, Bytes w v l → ∃ ao cap, v = .slice ao l.length cap := fun v w ⟨ao, cap, e, _⟩ => ⟨ao, cap, e⟩
  by_cases a1 : l.length < 4
  · refine .inl ⟨1, fun v w hB => ?_⟩
    obtain ⟨ao, cap, rfl⟩ := fm v w hB
    exact md_head _ 1 w (fun W hW => mh_a ao _ cap l N W (hB.later hW) hN a1)
  by_cases a2 : N < 4
  · refine .inl ⟨1, fun v w hB => ?_⟩
    obtain ⟨ao, cap, rfl⟩ := fm v w hB
    exact md_head _ 1 w (fun W hW => mh_b ao _ cap l N W (hB.later hW) hN a1 a2)
  by_cases a3 : l.length < r8 N
  · refine .inl ⟨1, fun v w hB => ?_⟩
    obtain ⟨ao, cap, rfl⟩ := fm v w hB
    exact md_head _ 1 w (fun W hW => mh_c ao _ cap l N W (hB.later hW) hN a1 a2 a3)
  by_cases a4 : be2 l 0 = 1
  · by_cases a5 : 1004 < N
    · refine .inl ⟨1, fun v w hB => ?_⟩
      obtain ⟨ao, cap, rfl⟩ := fm v w hB
      exact md_head _ 1 w (fun W hW => mh_e ao _ cap l N W (hB.later hW) hN a1 a2 (by omega) a4 a5)
    · have hg := r8_ge N
      have hlt : ((l.take N).drop 4).length ≤ 100000 := by simp; omega
      have qL : ∀ ao cap w, Bytes w (.slice ao l.length cap) l → ∀ W, Below w.heap.size w W → _ := fun ao cap w hB W hW => mh_f ao _ cap l N W (Bytes.later hB hW) hN a1 a2 (by omega) a4 a5
      rcases parts_all _ ((l.take N).drop 4) (Nat.le_refl _) (fun z hz => hl z (List.mem_of_mem_take (List.mem_of_mem_drop hz))) with ⟨L, hp⟩ | ⟨k, hp⟩
      · cases hc : mchk [] L with
        | none =>
          cases hz : nzB ((l.take (r8 N)).drop N)
          · exact .inr ⟨L, N, M_ok hN a4 (by omega) (by omega) (by omega) hp hc hz, hN, a4, by omega, by omega, by omega, hp, hc, hz⟩
          · refine .inl ⟨1, fun v w hB => ?_⟩
            obtain ⟨ao, cap, rfl⟩ := fm v w hB
            obtain ⟨x1, s1, b1⟩ := bytes_mid hB 4 N (by omega) (by omega)
            obtain ⟨x2, s2, b2⟩ := bytes_mid hB N (r8 N) hg (by omega)
            refine md_nz _ _ N L _ w (qL ao cap w hB) s1 (fun W hW => rp_ok _ _ L W (b1.later hW) hlt hp) (by rw [hc]; rfl) (by omega) s2 (fun W hW => ?_)
            have := cont_any _ _ W (b2.later hW)
            rw [hz] at this
            exact this
        | some c =>
          refine .inl ⟨c, fun v w hB => ?_⟩
          obtain ⟨ao, cap, rfl⟩ := fm v w hB
          obtain ⟨x1, s1, b1⟩ := bytes_mid hB 4 N (by omega) (by omega)
          exact md_chk _ _ N L c w (qL ao cap w hB) s1 (fun W hW => rp_ok _ _ L W (b1.later hW) hlt hp) (by rw [hc]; rfl)
      · refine .inl ⟨k, fun v w hB => ?_⟩
        obtain ⟨ao, cap, rfl⟩ := fm v w hB
        obtain ⟨x1, s1, b1⟩ := bytes_mid hB 4 N (by omega) (by omega)
        exact md_parts _ _ N k w (qL ao cap w hB) s1 (fun W hW => rp_bad _ _ k W (b1.later hW) hlt hp)
  · refine .inl ⟨0, fun v w hB => ?_⟩
    obtain ⟨ao, cap, rfl⟩ := fm v w hB
    exact md_head _ 0 w (fun W hW => mh_d ao _ cap l N W (hB.later hW) hN a1 a2 (by omega) a4)

end Go.Proofs.Ytcffebkebldjcaa
