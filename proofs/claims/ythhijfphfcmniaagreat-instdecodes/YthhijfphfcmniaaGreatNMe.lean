import Derived.Test.YthhijfphfcmniaaGreatNLCe
import Derived.Test.YthhijfphfcmniaaGreatOye
import Derived.Test.YthhijfphfcmniaaGreatJTe
import Derived.Test.YthhijfphfcmniaaGreatJDe
import Derived.Deep.RegionHeld3
import Derived.Deep.RegionWith
import Derived.Deep.MidRow
import Derived.Deep.Cut
set_option maxRecDepth 100000
set_option maxHeartbeats 8000000
set_option linter.unusedVariables false
set_option linter.unusedSimpArgs false
namespace Go.Proofs.YthhijfphfcmniaaGreat
open Go Go.RowKit
def tailI (o : I6) : List Int := if o.1 = 2 then wtail o.2.2.1.1 o.2.2.1.2 8 ++ wtail o.2.2.2.1.1 o.2.2.2.1.2 8 else if o.1 = 3 ∨ o.1 = 4 then encA o.2.2.2.2 else []
theorem bodyI_cons (o : I6) : bodyI o = (o.2.1 % 256) :: 0 :: 0 :: 0 :: tailI o := by
  unfold bodyI tailI
  split
  · simp [spl]
  · split
    · simp [spl]
    · simp [spl]
theorem instE_cons (o : I6) (X : List Int) : instE o ++ X = (o.1 / 256 % 256) :: (o.1 % 256) :: ((8 + ((tailI o).length : Int)) / 256 % 256) :: ((8 + ((tailI o).length : Int)) % 256) :: (o.2.1 % 256) :: 0 :: 0 :: 0 :: (tailI o ++ X) := by
  unfold instE
  rw [bodyI_cons]
  have e : (4 + (((o.2.1 % 256) :: 0 :: 0 :: 0 :: tailI o).length : Int)) = 8 + ((tailI o).length : Int) := by simp; omega
  rw [e]
  simp [spl]
theorem instE_len (o : I6) : (instE o).length = 8 + (tailI o).length := by
  have := congrArg List.length (instE_cons o [])
  simp at this
  rw [this]; omega
theorem encA_mod : ∀ L : List A11, AFit L → L.all artO = true → (encA L).length % 8 = 0
  | [], _, _ => rfl
  | (k, p, x, q, y, f, m, a, b, c, d) :: r, hF, h => by
    rw [List.all_cons, Bool.and_eq_true] at h
    obtain ⟨ha, hb, hc, hd⟩ := hF k p x q y f m a b c d (by simp)
    have h1 := (aenc_len ha hb hc hd (show art k p x q y f m a b c d = true from h.1)).2.1
    have h2 := encA_mod r hF.tail h.2
    show (aencO (k, p, x, q, y, f, m, a, b, c, d) ++ encA r).length % 8 = 0
    rw [List.length_append]
    show ((aencL k p x q y f m a b c d).length + _) % 8 = 0
    omega
theorem cl8 : cl 8 16 = 8 := by decide
theorem get8 {b : Nat} (X : List Int) (hb : b < 18446744073709551616) : gx (wtail 0 b 8 ++ X) 8 = 0 ∧ gy (wtail 0 b 8 ++ X) 8 = b := by
  have e : gv (wtail 0 b 8 ++ X) 8 = 0 * 18446744073709551616 + b := by
    rw [show (8 : Int) = ((8 : Nat) : Int) from rfl, gv_app _ X 8 (by decide) (by rw [wtail_length]; decide)]
    unfold wtail
    rw [show cl ((8 : Nat) : Int) 16 = 8 from by decide]
    exact bev_tail_h 0 b 8 (by decide) (by decide) hb (by simpa using hb)
  unfold gx gy
  rw [e]
  omega
theorem gx8 (r : List Int) (hr : isB r) (hl : 8 ≤ r.length) : gx r 8 = 0 := by
  have hk : gok r 8 = true := by simp [gok]; omega
  have hv : gv r 8 = bev (r.take 8) := by unfold gv; rw [if_pos hk]; rfl
  have hb := bev_lt (r.take 8) (isB_take hr 8)
  have hlen : (r.take 8).length = 8 := by simp; omega
  rw [hlen] at hb
  unfold gx
  rw [hv]
  exact Nat.div_eq_of_lt (by simpa using hb)
theorem msk_hi {o : I6} (hI : IFit o) (h : mskI o = true) : o.2.2.2.1.1 = 0 := by
  unfold mskI wi at h
  simp only [Bool.and_eq_true, beq_iff_eq] at h
  have := le_of_andn hI.2.2.1 (show LW64.1 < 18446744073709551616 by decide) h.1
  have e : LW64.1 = 0 := by decide
  omega
theorem val_hi {o : I6} (hI : IFit o) (h : mskI o = true) (hw : wi o.2.2.1.1 o.2.2.1.2 o.2.2.2.1.1 o.2.2.2.1.2 = true) : o.2.2.1.1 = 0 := by
  have hc := msk_hi hI h
  unfold wi at hw
  simp only [Bool.and_eq_true, beq_iff_eq] at hw
  have := le_of_andn hI.1 hI.2.2.1 hw.1
  omega
theorem tailI_len {o : I6} (hI : IFit o) (h : iR o = true) : (tailI o).length % 8 = 0 ∧ (tailI o).length ≤ 6000 ∧ fitK o.1 ((8 + (tailI o).length : Nat) : Int) = true := by
  obtain ⟨-, -, -, h1, h2⟩ := iR_parts h
  unfold tailI fitK
  by_cases e2 : o.1 = 2
  · rw [if_pos e2, if_pos e2, List.length_append, wtail_length, wtail_length, cl8]
    decide
  · rw [if_neg e2, if_neg e2]
    by_cases e3 : o.1 = 3 ∨ o.1 = 4
    · rw [if_pos e3, if_pos e3]
      exact ⟨encA_mod _ hI.2.2.2.2 h2, encA_6000 hI.2.2.2.2 h1 h2, rfl⟩
    · rw [if_neg e3, if_neg e3]
      decide
theorem own_table {o : I6} (h : o = ownI o) (h1 : ¬ o.1 = 1) : o.2.1 = 0 := by
  have e : o.2.1 = (ownI o).2.1 := congrArg (fun x : I6 => x.2.1) h
  rw [e]
  unfold ownI
  rw [if_neg h1]
  split
  · rfl
  · split <;> rfl
theorem hok_enc (o : I6) (X : List Int) (hI : IFit o) (h : iR o = true) : HOk (instE o ++ X) o.1 (8 + (tailI o).length) := by
  obtain ⟨g1, g2, g3⟩ := tailI_len hI h
  have ht := iR_table h
  obtain ⟨ho, hch, -, -, -⟩ := iR_parts h
  obtain ⟨hk, -, -⟩ := chkI_parts hch
  have hl : (instE o ++ X).length = 8 + (tailI o).length + X.length := by rw [List.length_append, instE_len]
  have ik : isK o.1 = true := by unfold isK; simp [hk.1, hk.2]
  refine ⟨?_, ?_, by rw [hl]; omega, ⟨by omega, by omega, by rw [hl]; omega⟩, by omega, ik, g3, ?_⟩
  · rw [instE_cons]
    unfold be2
    rw [if_pos (by simp)]
    simp
    omega
  · rw [instE_cons]
    unfold be2
    rw [if_pos (by simp)]
    simp
    omega
  · unfold nouI
    rw [instE_cons]
    by_cases h1 : o.1 = 1
    · rw [if_pos h1]
      simp [nzB]
    · rw [if_neg h1, own_table ho h1]
      simp [nzB]
theorem ibd_enc (o : I6) (hI : IFit o) (h : iR o = true) : BdOk Ans (bodyI o) o.1 o := by
  have ht := iR_table h
  obtain ⟨ho, hch, hms, h1, h2⟩ := iR_parts h
  obtain ⟨hk, -, hw⟩ := chkI_parts hch
  rw [bodyI_cons]
  have hd : ((o.2.1 % 256) :: 0 :: 0 :: 0 :: tailI o).drop 4 = tailI o := rfl
  have hk5 : o.1 = 1 ∨ o.1 = 2 ∨ (o.1 = 3 ∨ o.1 = 4) ∨ o.1 = 5 := by omega
  rcases hk5 with e | e | e | e
  · refine .inl ⟨e, ?_, ?_⟩
    · show o.2.1 % 256 < 255
      omega
    · show o = (1, o.2.1 % 256, (0, 0), (0, 0), [])
      have e2 : o.2.1 % 256 = o.2.1 := by omega
      rw [e2]
      have e3 : ownI o = (o.1, o.2.1, (0, 0), (0, 0), []) := by unfold ownI; rw [if_pos e]
      rw [← e, ← e3]
      exact ho
  · refine .inr (.inl ⟨e, ?_⟩)
    rw [hd]
    have hc := msk_hi hI hms
    have ha := val_hi hI hms (hw e)
    have et : tailI o = wtail 0 o.2.2.1.2 8 ++ wtail 0 o.2.2.2.1.2 8 := by unfold tailI; rw [if_pos e, ha, hc]
    have ed : (tailI o).drop 8 = wtail 0 o.2.2.2.1.2 8 ++ [] := by rw [et, List.append_nil]; exact List.drop_left' (by rw [wtail_length]; decide)
    obtain ⟨p1, p2⟩ := get8 (wtail 0 o.2.2.2.1.2 8) hI.2.1
    obtain ⟨p3, p4⟩ := get8 (b := o.2.2.2.1.2) [] hI.2.2.2.1
    rw [ed, et, p1, p2, p3, p4]
    have hw2 := hw e
    rw [ha, hc] at hw2
    refine ⟨hw2, ?_⟩
    have e3 : ownI o = (2, 0, o.2.2.1, o.2.2.2.1, []) := by unfold ownI; rw [if_neg (by omega), if_pos e]
    have e4 : o = (2, 0, o.2.2.1, o.2.2.2.1, []) := by rw [← e3]; exact ho
    have e5 : o.2.2.1 = (0, o.2.2.1.2) := Prod.ext ha rfl
    have e6 : o.2.2.2.1 = (0, o.2.2.2.1.2) := Prod.ext hc rfl
    exact e4.trans (by rw [← e5, ← e6])
  · refine .inr (.inr (.inl ⟨e, o.2.2.2.2, ?_, h1, ?_⟩))
    · rw [hd]
      have et : tailI o = encA o.2.2.2.2 := by unfold tailI; rw [if_neg (by omega), if_pos e]
      rw [et]
      exact aok_enc _ hI.2.2.2.2 h2
    · have e3 : ownI o = (o.1, 0, (0, 0), (0, 0), o.2.2.2.2) := by unfold ownI; rw [if_neg (by omega), if_neg (by omega), if_pos e]
      rw [← e3]; exact ho
  · refine .inr (.inr (.inr ⟨e, ?_⟩))
    have e3 : ownI o = (o.1, 0, (0, 0), (0, 0), []) := by unfold ownI; rw [if_neg (by omega), if_neg (by omega), if_neg (by omega)]
    rw [← e, ← e3]; exact ho
theorem dok_enc : ∀ (L : List I6) (ks : List Int), LFit L → (∀ i o, L[i]? = some o → iR o = true ∧ o.1 ∉ ks ∧ o.1 ∉ (L.take i).map (·.1)) → DOk Ans ks (encIs L) L
  | [], ks, _, _ => .nil
  | o :: r, ks, hF, h => by
    obtain ⟨h1, h2, -⟩ := h 0 o rfl
    have hI := (hF o (by simp)).1
    show DOk Ans ks (instE o ++ encIs r) (o :: r)
    have hl := instE_len o
    have e1 : ((instE o ++ encIs r).take (8 + (tailI o).length)).drop 4 = bodyI o := by
      rw [List.take_left' hl]
      unfold instE
      exact List.drop_left' (by simp [spl_len2])
    refine .cons (hok_enc o _ hI h1) h2 (by rw [e1]; exact ibd_enc o hI h1) ?_
    rw [List.drop_left' hl]
    refine dok_enc r _ (fun x hx => hF x (by simp [hx])) (fun i x hx => ?_)
    obtain ⟨k1, k2, k3⟩ := h (i + 1) x (by simpa using hx)
    rw [List.take_succ_cons, List.map_cons, List.mem_cons] at k3
    refine ⟨k1, fun hm => ?_, fun hm => k3 (.inr hm)⟩
    rcases List.mem_append.1 hm with hm | hm
    · exact k2 hm
    · exact k3 (.inl (by simpa using hm))
end Go.Proofs.YthhijfphfcmniaaGreat
