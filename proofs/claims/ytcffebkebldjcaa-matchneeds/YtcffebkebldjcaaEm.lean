import Derived.Test.YtcffebkebldjcaaEk
import Derived.Test.YtcffebkebldjcaaOy
import Derived.Test.YtcffebkebldjcaaXi
import Derived.Deep.RegionHeld3
import Derived.Deep.RegionWith
import Derived.Deep.MidRow
import Derived.Deep.Cut
namespace Go.Proofs.Ytcffebkebldjcaa
open Go Go.RowKit
set_option linter.unusedVariables false
set_option linter.unusedSimpArgs false

theorem Fit.tail {o : O6} {r : List O6} (h : Fit (o :: r)) : Fit r := fun i f m a b c d hi => h (i + 1) f m a b c d (by simpa using hi)
theorem encO_pos (o : O6) : 0 < (encO o).length := by
  obtain ⟨f, m, a, b, c, d⟩ := o
  unfold encO encL
  simp only [List.length_append, spl_len2]
  omega
theorem pok_enc : ∀ L : List O6, Fit L → L.any (fun t => !rgtO t) = false → POk (encs L) L := by
  intro L
  induction L with
  | nil => intro _ _; exact .nil
  | cons o r ih =>
    intro hF hr
    obtain ⟨f, m, a, b, c, d⟩ := o
    obtain ⟨g1, g2, g3, g4⟩ := hF 0 f m a b c d rfl
    have h1 : rgt f m a b c d = true := by
      rw [List.any_eq_false] at hr
      have := hr (f, m, a, b, c, d) (by simp)
      simpa [rgtO] using this
    have h2 : r.any (fun t => !rgtO t) = false := by
      rw [List.any_eq_false] at hr ⊢
      exact fun x hx => hr x (by simp [hx])
    have e : encs ((f, m, a, b, c, d) :: r) = encL f m a b c d ++ encs r := by simp [encs, encO]
    rw [e]
    have hp := encO_pos (f, m, a, b, c, d)
    refine .cons (n := (encL f m a b c d).length) (dec_enc (encs r) g1 g2 g3 g4 h1) h1 hp (by rw [List.length_append]; omega) List.take_left.symm g1 g2 g3 g4 ?_
    rw [List.drop_left]
    exact ih hF.tail h2
theorem pok_all {l : List Int} {L : List O6} (h : POk l L) : encs L = l ∧ Fit L ∧ L.any (fun t => !rgtO t) = false := by
  induction h with
  | nil => exact ⟨rfl, fun i f m a b c d hi => by simp at hi, rfl⟩
  | @cons l f m a b c d n L hd hr h0 hle he g1 g2 g3 g4 hp ih =>
    obtain ⟨e1, e2, e3⟩ := ih
    refine ⟨?_, ?_, ?_⟩
    · have : encs ((f, m, a, b, c, d) :: L) = encL f m a b c d ++ encs L := by simp [encs, encO]
      rw [this, he, e1, List.take_append_drop]
    · intro i f' m' a' b' c' d' hi
      cases i with
      | zero =>
        simp at hi
        obtain ⟨rfl, rfl, rfl, rfl, rfl, rfl⟩ := hi
        exact ⟨g1, g2, g3, g4⟩
      | succ i => exact e2 i f' m' a' b' c' d' (by simpa using hi)
    · rw [List.any_cons, e3]
      simp [rgtO, hr]
theorem m_expl {l : List Int} (h : 4 ≤ l.length) : ∃ b0 b1 b2 b3 r, l = b0 :: b1 :: b2 :: b3 :: r := by
  rcases l with _ | ⟨b0, l⟩
  · simp at h
  rcases l with _ | ⟨b1, l⟩
  · simp at h
  rcases l with _ | ⟨b2, l⟩
  · simp at h
  rcases l with _ | ⟨b3, l⟩
  · simp at h
  exact ⟨b0, b1, b2, b3, l, rfl⟩
/-- what was decoded has just these bytes -/
theorem menc_dec {l : List Int} {L : List O6} {N : Nat} (hl : isB l) (hN : be2 l 2 = (N : Int)) (h1 : be2 l 0 = 1) (h4 : 4 ≤ N) (hle : r8 N ≤ l.length) (hp : POk ((l.take N).drop 4) L) (hz : nzB ((l.take (r8 N)).drop N) = false) : mencL L = l.take (r8 N) := by
  have hg := r8_ge N
  obtain ⟨e1, -, -⟩ := pok_all hp
  have hlen : (encs L).length = N - 4 := by rw [e1]; simp; omega
  have e2 : (l.take (r8 N)).drop N = List.replicate (r8 N - N) 0 := by
    apply List.eq_replicate_iff.2
    refine ⟨by simp; omega, fun z hz1 => ?_⟩
    unfold nzB at hz
    rw [List.any_eq_false] at hz
    simpa using hz z hz1
  have hn : 4 + (encs L).length = N := by omega
  have e3 : mencL L = spl 1 2 ++ spl (N : Int) 2 ++ (encs L ++ List.replicate (r8 N - N) 0) := by unfold mencL; rw [hn]
  have e4 : l.take (r8 N) = (l.take N).take 4 ++ ((l.take N).drop 4 ++ (l.take (r8 N)).drop N) := by
    rw [← List.append_assoc, List.take_append_drop]
    have : l.take N = (l.take (r8 N)).take N := by rw [List.take_take, Nat.min_eq_left hg]
    rw [this, List.take_append_drop]
  have e5 : (l.take N).take 4 = spl 1 2 ++ spl (N : Int) 2 := by
    rw [List.take_take, Nat.min_eq_left h4]
    obtain ⟨b0, b1, b2, b3, r, rfl⟩ := m_expl (l := l) (by omega)
    have i0 := hl b0 (by simp)
    have i1 := hl b1 (by simp)
    have i2 := hl b2 (by simp)
    have i3 := hl b3 (by simp)
    simp [be2] at h1 hN
    simp [spl]
    omega
  rw [e3, e4, e5, e1, e2]
/-- a match is read from its bytes, whatever is behind -/
theorem mdec_enc {L : List O6} (X : List Int) (hF : Fit L) (hr : L.any (fun t => !rgtO t) = false) (hc : mchk [] L = none) : MOk (mencL L ++ X) L (4 + (encs L).length) ∧ (mencL L).length = r8 (4 + (encs L).length) := by
  obtain ⟨hs, -⟩ := encs_small hr hc
  obtain ⟨N, hN⟩ : ∃ N, 4 + (encs L).length = N := ⟨_, rfl⟩
  have hg := r8_ge N
  have e : mencL L = [0, 1, (N : Int) / 256 % 256, (N : Int) % 256] ++ (encs L ++ List.replicate (r8 N - N) 0) := by
    unfold mencL
    rw [hN]
    simp [spl]
  have hlen : (mencL L).length = r8 N := by rw [e]; simp; omega
  rw [hN]
  refine ⟨?_, hlen⟩
  have et : (mencL L ++ X).take (r8 N) = mencL L := by rw [← hlen]; exact List.take_left
  have en : (mencL L ++ X).take N = [0, 1, (N : Int) / 256 % 256, (N : Int) % 256] ++ encs L := by
    have : (mencL L ++ X).take N = (mencL L).take N := by
      have h : (mencL L ++ X).take N = ((mencL L ++ X).take (r8 N)).take N := by rw [List.take_take, Nat.min_eq_left hg]
      rw [h, et]
    rw [this, e, ← List.append_assoc]
    have hl4 : ([0, 1, (N : Int) / 256 % 256, (N : Int) % 256] ++ encs L).length = N := by simp; omega
    have hh := List.take_left (l₁ := [0, 1, (N : Int) / 256 % 256, (N : Int) % 256] ++ encs L) (l₂ := List.replicate (r8 N - N) (0 : Int))
    rw [hl4] at hh
    exact hh
  refine M_ok ?_ ?_ (by omega) (by omega) (by rw [List.length_append, hlen]; omega) ?_ hc ?_
  · rw [e]; simp [be2]; omega
  · rw [e]; simp [be2]
  · rw [en]
    exact pok_enc L hF hr
  · rw [et, e]
    have hl4 : ([0, 1, (N : Int) / 256 % 256, (N : Int) % 256] ++ encs L).length = N := by simp; omega
    rw [← List.append_assoc]
    have : ([0, 1, (N : Int) / 256 % 256, (N : Int) % 256] ++ encs L ++ List.replicate (r8 N - N) (0 : Int)).drop N = List.replicate (r8 N - N) 0 := by
      have := List.drop_left (l₁ := [0, 1, (N : Int) / 256 % 256, (N : Int) % 256] ++ encs L) (l₂ := List.replicate (r8 N - N) (0 : Int))
      rw [hl4] at this
      exact this
    rw [this]
    simp [nzB]

end Go.Proofs.Ytcffebkebldjcaa
