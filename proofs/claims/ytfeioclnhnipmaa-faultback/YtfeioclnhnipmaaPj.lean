import Derived.Test.YtfeioclnhnipmaaPi
import Derived.Test.YtfeioclnhnipmaaNg
import Derived.Deep.RegionHeld3
import Derived.Deep.RegionWith
import Derived.Deep.MidRow
import Derived.Deep.Cut
namespace Go.Proofs.Ytfeioclnhnipmaa
open Go Go.RowKit
set_option linter.unusedVariables false
set_option linter.unusedSimpArgs false

theorem headF_be2 (kind xid : Int) (body : List Int) (h : body.length ≤ 65527) : be2 (headF kind xid body) 2 = ((headF kind xid body).length : Int) := by
  have e : headF kind xid body = 4 % 256 :: kind % 256 :: (8 + (body.length : Int)) / 256 % 256 :: (8 + (body.length : Int)) % 256 :: (spl xid 4 ++ body) := by simp [headF, h3F, h2F, h1F, spl]
  rw [headF_len]
  unfold be2
  rw [if_pos (by rw [headF_len]; omega), e]
  simp
  omega
theorem headF_drop (kind xid : Int) (body : List Int) : (headF kind xid body).drop 8 = body := List.drop_left' (h3F_len kind xid body.length)
theorem rows_one {W : World} {u : Value} {x : List Int} (h : RowsAt W u [x]) (hx : 0 < x.length) : ∃ g c a c', u = .slice (some ⟨g, 0, none⟩) 1 c ∧ 1 ≤ c ∧ c ≤ 9223372036854775807 ∧ W.cell? ⟨g, 0, none⟩ = some (.slice a x.length c') ∧ Bytes W (.slice a x.length c') x := by
  obtain ⟨vs, o, hl, hp⟩ := h
  obtain ⟨g, c, rfl, h1, h2⟩ := own_form o (Nat.succ_pos 0)
  match vs, hl with
  | [v0], _ =>
    obtain ⟨hb, a, c', rfl⟩ := hp 0 v0 x rfl rfl
    have := o.cells rfl 0 _ rfl
    rw [Addr.add_lit] at this
    exact ⟨g, c, a, c', rfl, h1, by simpa using h2, this, hb⟩
theorem be2_codes (t c : Int) (l : List Int) (h : 0 ≤ t ∧ t ≤ 65535) : be2 (codesF t c ++ l) 0 = t := by
  unfold be2
  have e : codesF t c ++ l = t / 256 % 256 :: t % 256 :: c / 256 % 256 :: c % 256 :: l := by simp [codesF, spl]
  rw [e, if_pos (by simp)]
  simp
  omega
theorem be2_codes2 (t c : Int) (l : List Int) (h : 0 ≤ c ∧ c ≤ 65535) : be2 (codesF t c ++ l) 2 = c := by
  unfold be2
  have e : codesF t c ++ l = t / 256 % 256 :: t % 256 :: c / 256 % 256 :: c % 256 :: l := by simp [codesF, spl]
  rw [e, if_pos (by simp)]
  simp
  omega
theorem body_drop (t c : Int) (m : List Int) : (bodyF t c m).drop 4 = m.take 64 := List.drop_left' (codesF_len t c)
theorem reply_drop (t c : Int) (m : List Int) : (replyF t c m).drop 8 = bodyF t c m := headF_drop 1 (be4 m 4) (bodyF t c m)
theorem reply_mid (t c : Int) (m : List Int) (hm : isB m) (h8 : 8 ≤ m.length) : ((replyF t c m).take 8).drop 4 = (m.take 8).drop 4 := by
  obtain ⟨h0, h1⟩ := be4_range hm 4
  have e : replyF t c m = h3F 1 (be4 m 4) (bodyF t c m).length ++ bodyF t c m := rfl
  rw [e, List.take_left' (h3F_len _ _ _)]
  have e2 : (h3F 1 (be4 m 4) (bodyF t c m).length).drop 4 = spl (be4 m 4) 4 := List.drop_left' (by simp [h2F, h1F, spl_len])
  rw [e2]
  match m, h8 with
  | z0 :: z1 :: z2 :: z3 :: z4 :: z5 :: z6 :: z7 :: r, _ =>
    have b4 := hm z4 (by simp)
    have b5 := hm z5 (by simp)
    have b6 := hm z6 (by simp)
    have b7 := hm z7 (by simp)
    have e3 : be4 (z0 :: z1 :: z2 :: z3 :: z4 :: z5 :: z6 :: z7 :: r) 4 = ((z4 * 256 + z5) * 256 + z6) * 256 + z7 := by
      unfold be4
      rw [if_pos (by simp)]
      rfl
    rw [e3]
    clear h0 h1 e e2 e3 hm
    simp [spl]
    refine ⟨?_, ?_, ?_, ?_⟩ <;> omega
theorem reply_cuts (t c : Int) (m : List Int) : Cuts (replyF t c m) [replyF t c m] [] := by
  have h := bodyF_len t c m
  have := cuts_msgs [] (by decide) [replyF t c m] (by intro x hx; simp at hx; subst hx; exact ⟨by rw [replyF_len]; omega, headF_be2 1 (be4 m 4) (bodyF t c m) (by rw [h]; omega)⟩)
  simpa using this

end Go.Proofs.Ytfeioclnhnipmaa
