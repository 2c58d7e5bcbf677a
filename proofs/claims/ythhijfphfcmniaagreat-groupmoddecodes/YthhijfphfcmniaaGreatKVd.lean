import Derived.Test.YthhijfphfcmniaaGreatKNd
import Derived.Test.YthhijfphfcmniaaGreatJEd
import Derived.Deep.RegionHeld3
import Derived.Deep.RegionWith
import Derived.Deep.MidRow
import Derived.Deep.Cut
namespace Go.Proofs.YthhijfphfcmniaaGreat
open Go Go.RowKit
set_option linter.unusedVariables false
set_option linter.unusedSimpArgs false

theorem be2_drop (l : List Int) (a i : Nat) : be2 l (a + i) = be2 (l.drop a) i := by
  unfold be2
  by_cases h : a + i + 2 ≤ l.length
  · rw [if_pos h, if_pos (by rw [List.length_drop]; omega)]
    simp [List.getD_eq_getElem?_getD, List.getElem?_drop, Nat.add_assoc]
  · rw [if_neg h, if_neg (by rw [List.length_drop]; omega)]
theorem be4_drop (l : List Int) (a i : Nat) : be4 l (a + i) = be4 (l.drop a) i := by
  unfold be4
  by_cases h : a + i + 4 ≤ l.length
  · rw [if_pos h, if_pos (by rw [List.length_drop]; omega)]
    simp [List.getD_eq_getElem?_getD, List.getElem?_drop, Nat.add_assoc]
  · rw [if_neg h, if_neg (by rw [List.length_drop]; omega)]
theorem mid_drop (l : List Int) (a s n : Nat) : (l.take (a + n)).drop (a + s) = ((l.drop a).take n).drop s := by
  rw [← List.drop_drop, List.drop_take, show a + n - a = n by omega]
theorem drop_at (l : List Int) (a i : Nat) (z : Int) (h : (l.drop a)[i]? = some z) : l[a + i]? = some z := by rwa [List.getElem?_drop] at h
theorem nz_four {m : List Int} (h16 : 16 ≤ m.length) : ∃ a b c d : Int, m[12]? = some a ∧ m[13]? = some b ∧ m[14]? = some c ∧ m[15]? = some d ∧ nzB ((m.take 16).drop 12) = (decide (a ≠ 0) || (decide (b ≠ 0) || (decide (c ≠ 0) || decide (d ≠ 0)))) := by
  obtain ⟨b0, b1, b2, b3, b4, b5, b6, b7, b8, b9, b10, b11, b12, b13, b14, b15, r, rfl⟩ := expl16 h16
  exact ⟨b12, b13, b14, b15, rfl, rfl, rfl, rfl, by simp [nzB]⟩
theorem far1row {w : World} {base g n sz : Nat} {e : TypeId} {v : Value} {xs : List Value} (ho : w.ownsRow base e sz v n xs) (hg : g < base) (j : Nat) (x : Value) : (w.setCell ⟨g, j, none⟩ x).ownsRow base e sz v n xs := by
  refine ⟨ho.1, ?_⟩
  rcases ho.2 with hn | ⟨g', cap, cur, rfl, hb, hgg, rest⟩
  · exact .inl hn
  · refine .inr ⟨g', cap, cur, rfl, hb, ?_, rest⟩
    rw [Below.heap_setCell w ⟨g, j, none⟩ x g' (by show g' ≠ g; omega)]
    exact hgg
theorem take16 (l : List Int) (N : Nat) (h : 16 ≤ N) : (l.take N).take 16 = l.take 16 := by rw [List.take_take, Nat.min_eq_left h]

set_option maxRecDepth 100000 in
set_option maxHeartbeats 8000000 in
theorem rbad6_any (c : Int) (w : World) :
    Calls Tryz.prog 106 #[.int .i64 c] w fun e w' => e = .returned (.agg #[.bool true, .int .i64 6, .int .i64 c]) ∧ Below w.heap.size w w' := by
  have B0 := hide_ (below1 w (.cells #[.bool true, .int .i64 6, .int .i64 c] 44))
  go_enter Tryz.func106, Tryz.ntmps106
  go_wp2
  exact bodyPost_ret (v := .agg #[.bool true, .int .i64 6, .int .i64 c]) (by simp [results, Tryz.results106, go_sem]) rfl ⟨rfl, B0.out⟩

end Go.Proofs.YthhijfphfcmniaaGreat

namespace Go.Proofs.YthhijfphfcmniaaGreat
open Go Go.RowKit
set_option linter.unusedVariables false
set_option linter.unusedSimpArgs false

end Go.Proofs.YthhijfphfcmniaaGreat

namespace Go.Proofs.YthhijfphfcmniaaGreat
open Go Go.RowKit
set_option linter.unusedVariables false
set_option linter.unusedSimpArgs false

set_option maxRecDepth 100000 in
set_option maxHeartbeats 8000000 in
theorem rbd_many (v : Value) (l0 : List Int) (Ls : List BK) (w : World) (hB : Bytes w v l0) (h6 : l0.length ≤ 60000) (hP : BOk RAns l0 Ls) (hLL : 100 < Ls.length) :
    Calls Tryz.prog 71 #[v] w fun e w' => (e = .returned (.tuple #[.slice none 0 0, .agg #[.bool true, .int .i64 6, .int .i64 4]])) ∧ Below w.heap.size w w' := by
  have F0 := hide_ ((AB.at0 w 44 [.bool false, .int .i64 0, .int .i64 0]).alloc (.cells #[] 87))
  have B0 := hide_ (below2 w (.cells #[.bool false, .int .i64 0, .int .i64 0] 44) (.cells #[] 87))
  have OE : Hid (BRow ((w.alloc (.cells #[.bool false, .int .i64 0, .int .i64 0] 44)).alloc (.cells #[] 87)) (w.heap.size + 1) (.slice (some ⟨w.heap.size + 1, 0, none⟩) 0 0) []) := hide_ ⟨⟨rfl, .inr ⟨w.heap.size + 1, 0, #[], rfl, Nat.le_refl _, by simpa using heap_alloc_last (w.alloc (.cells #[.bool false, .int .i64 0, .int .i64 0] 44)) (.cells #[] 87), Nat.le_refl _, by decide, rfl, rfl⟩⟩, fun p hp => by cases hp⟩
  have HSZ : Hid ((w.heap.size + 1) ≤ ((w.alloc (.cells #[.bool false, .int .i64 0, .int .i64 0] 44)).alloc (.cells #[] 87)).heap.size) := hide_ (by simp)
  obtain ⟨ao0, cap0, rfl, hbr⟩ := hB
  have hB : Bytes w (.slice ao0 l0.length cap0) l0 := ⟨ao0, cap0, rfl, hbr⟩
  have HB0 := hide_ hB
  have g6 : ¬ (60000 : Int) < (l0.length : Int) := by omega
  clear hB hbr
  obtain ⟨i0, hi0, hz0, hz1, hz2⟩ := info_parts infoBu
  have HI : Hid (Tryz.prog.info? 87 = some i0 ∧ i0.zero = some (.agg #[.int .i64 0, .int .i64 0, .int .i64 0, .slice none 0 0]) ∧ i0.size = 4 ∧ i0.bytes = 48) := ⟨hi0, hz0, hz1, hz2⟩
  clear hi0 hz0 hz1 hz2
  have HP := hide_ hP
  clear hP
  have HLL := hide_ hLL
  clear hLL
  go_enter Tryz.func71, Tryz.ntmps71
  go_wp2
  go_loopw [4, 5] (fun u i wr => ∃ (at_ m : Nat) (ua : Option Addr) (uc : Nat) (pre : List BK) (P : List PB) (R : List BK), i = .int .i64 (at_ : Int) ∧ u = .slice ua m uc ∧ at_ ≤ l0.length ∧ 16 * m ≤ at_ ∧ Hid (m = P.length) ∧ Hid (BRow wr (w.heap.size + 1) (.slice ua m uc) P) ∧ Hid (BOk RAns (l0.drop at_) R ∧ pre ++ R = Ls) ∧ Hid (P.map (·.1) = pre) ∧ Hid (Below (w.heap.size + 1) ((w.alloc (.cells #[.bool false, .int .i64 0, .int .i64 0] 44)).alloc (.cells #[] 87)) wr)) (fun _ i _ => l0.length - (intOf i).toNat)
  case atStart => exact ⟨0, 0, _, _, [], [], Ls, rfl, rfl, Nat.zero_le _, Nat.le_refl _, hide_ rfl, OE, hide_ ⟨HP.out, rfl⟩, hide_ rfl, hide_ (Below.refl _ _)⟩
  case round =>
    obtain ⟨at_, m, ua, uc, pre, P, R, rfl, rfl, hn, hm, HM, HOw, HPP, HK, KB⟩ := hrel
    have KW := hide_ (B0.out.trans (KB.out.mono (Nat.le_succ _)))
    have HBw := hide_ (HB0.out.later KW.out)
    obtain ⟨hpo, hpre⟩ := HPP.out
    clear HPP
    generalize hdd : l0.drop at_ = dd at *
    cases hpo with
    | nil =>
      have hnl : ¬ (at_ : Int) < (l0.length : Int) := by
        have := congrArg List.length hdd
        rw [List.length_drop] at this
        simp at this
        omega
      have hpr : pre = Ls := by simpa using hpre
      clear hdd
      have g100 : (100 : Int) < (m : Int) := by have h1 := congrArg List.length HK.out; rw [hpr, List.length_map, ← HM.out] at h1; have := HLL.out; omega
      clear hpre hpr
      go_wp2_with (go_at_call 106; refine (rbad6_any 4 _).mono ?_; rintro e w9 ⟨rfl, b9⟩; have K9 := KB.out.trans (b9.mono (Nat.le_trans HSZ.out KB.out.size)); obtain ⟨s0, s1, s2', s3, s4, s5⟩ := (F0.out.below K9 (Nat.lt_succ_self _)).three; obtain ⟨u0, u1, u2, -⟩ := ((F0.out.below K9 (Nat.lt_succ_self _)).set3 (.bool true) (.int .i64 6) (.int .i64 4)).three; have bb := below_set3 (g := w.heap.size) (B0.out.trans (K9.mono (Nat.le_succ _))) (Nat.le_refl _) (.bool true) (.int .i64 6) (.int .i64 4))
      exact bodyPost_ret (v := .tuple #[.slice none 0 0, .agg #[.bool true, .int .i64 6, .int .i64 4]]) (by simp [results, Tryz.results71, go_sem, u0, u1, u2]) rfl ⟨rfl, bb⟩
    | @cons _ nn LL RR hd hrest =>
      subst hdd
      have hrest := hide_ hrest
      have hpre := hide_ hpre
      have hcut := hd.1
      have hN := hd.2.1
      have hz := hd.2.2.1
      have hlr : (l0.drop at_).length = l0.length - at_ := List.length_drop
      have h16 : 16 ≤ nn := by unfold cutOk at hcut; omega
      have hle : at_ + nn ≤ l0.length := by unfold cutOk at hcut; omega
      have h8 : ((nn : Nat) : Int) % 8 = 0 := by unfold cutOk at hcut; omega
      obtain ⟨y12, y13, y14, y15, i12, i13, i14, i15, hnz⟩ := nz_four (m := l0.drop at_) (by omega)
      rw [take16 _ _ h16, hnz] at hz
      have hzz : y12 = 0 ∧ y13 = 0 ∧ y14 = 0 ∧ y15 = 0 := by simpa using hz
      obtain ⟨rfl, rfl, rfl, rfl⟩ := hzz
      obtain ⟨-, -, -, hat⟩ := Bytes.at HBw.out
      obtain ⟨bq, off, eq0, C12⟩ := hat _ _ (drop_at _ _ _ _ i12)
      have e13 := hat _ _ (drop_at _ _ _ _ i13)
      have e14 := hat _ _ (drop_at _ _ _ _ i14)
      have e15 := hat _ _ (drop_at _ _ _ _ i15)
      subst eq0
      obtain ⟨_, _, eq1, C13⟩ := e13
      cases eq1
      obtain ⟨_, _, eq1, C14⟩ := e14
      cases eq1
      obtain ⟨_, _, eq1, C15⟩ := e15
      cases eq1
      have hlN : ((l0.drop at_).take nn).length = nn := by rw [List.length_take]; omega
      have q0 := rnget2 _ l0 at_ wr HBw.out (by omega)
      rw [show be2 l0 at_ = (nn : Int) from (be2_drop l0 at_ 0).trans hN] at q0
      have eb1 : be2 ((l0.drop at_).take nn) 2 = be2 l0 (at_ + 2) := (be2_take (by omega) (by omega)).trans (be2_drop l0 at_ 2).symm
      have eb2 : be4 ((l0.drop at_).take nn) 4 = be4 l0 (at_ + 4) := (be4_take (by omega) (by omega)).trans (be4_drop l0 at_ 4).symm
      have eb3 : be4 ((l0.drop at_).take nn) 8 = be4 l0 (at_ + 8) := (be4_take (by omega) (by omega)).trans (be4_drop l0 at_ 8).symm
      obtain ⟨v1, hv1⟩ : ∃ v, be2 l0 (at_ + 2) = v := ⟨_, rfl⟩
      obtain ⟨v2, hv2⟩ : ∃ v, be4 l0 (at_ + 4) = v := ⟨_, rfl⟩
      obtain ⟨v3, hv3⟩ : ∃ v, be4 l0 (at_ + 8) = v := ⟨_, rfl⟩
      obtain ⟨p2, hp2⟩ : ∃ p : Int, (at_ : Int) + 2 = p := ⟨_, rfl⟩
      obtain ⟨p4, hp4⟩ : ∃ p : Int, (at_ : Int) + 4 = p := ⟨_, rfl⟩
      obtain ⟨p8, hp8⟩ : ∃ p : Int, (at_ : Int) + 8 = p := ⟨_, rfl⟩
      have q2 : ∀ W, Below wr.heap.size wr W → Calls Tryz.prog 55 #[.slice (some ⟨bq, off, none⟩) l0.length cap0, .int .i64 p2, .int .i64 2] W fun e w' => ∃ er, e = .returned (.tuple #[.int .i64 v1, .int .i64 er]) ∧ W = w' := fun W hW => by
        have := rnget2 _ l0 (at_ + 2) W (HBw.out.later hW) (by omega)
        rw [hv1] at this
        rw [← hp2]
        exact this
      have q4 : ∀ W, Below wr.heap.size wr W → Calls Tryz.prog 55 #[.slice (some ⟨bq, off, none⟩) l0.length cap0, .int .i64 p4, .int .i64 4] W fun e w' => ∃ er, e = .returned (.tuple #[.int .i64 v2, .int .i64 er]) ∧ W = w' := fun W hW => by
        have := rnget4 _ l0 (at_ + 4) W (HBw.out.later hW) (by omega)
        rw [hv2] at this
        rw [← hp4]
        exact this
      have q8 : ∀ W, Below wr.heap.size wr W → Calls Tryz.prog 55 #[.slice (some ⟨bq, off, none⟩) l0.length cap0, .int .i64 p8, .int .i64 4] W fun e w' => ∃ er, e = .returned (.tuple #[.int .i64 v3, .int .i64 er]) ∧ W = w' := fun W hW => by
        have := rnget4 _ l0 (at_ + 8) W (HBw.out.later hW) (by omega)
        rw [hv3] at this
        rw [← hp8]
        exact this
      obtain ⟨ao2, sl2, bb2⟩ := bytes_mid HBw.out (at_ + 16) (at_ + nn) (by omega) hle
      rw [mid_drop, show at_ + nn - (at_ + 16) = nn - 16 by omega] at bb2
      rw [show at_ + nn - (at_ + 16) = nn - 16 by omega] at sl2
      have sl2 : ∀ wx, (Instr.slice 25 (.slice (some ⟨bq, off, none⟩) l0.length cap0) (some (.int .i64 ((at_ : Int) + 16))) (some (.int .i64 ((at_ : Int) + (nn : Int)))) none).run Tryz.prog wx = .ok (.slice ao2 (nn - 16) (cap0 - (at_ + 16))) wx := sl2
      have g1 : (at_ : Int) < (l0.length : Int) := by omega
      have hw0 : IntKind.i64.wrap ((l0.length : Int) - (at_ : Int)) = (l0.length : Int) - (at_ : Int) := by rw [IntKind.wrap_i64]; omega
      have g2 : ¬ ((l0.length : Int) - (at_ : Int) < 16) := by omega
      have g3 : ¬ ((nn : Int) < 16) := by omega
      have g4 : ¬ ((l0.length : Int) - (at_ : Int) < (nn : Int)) := by omega
      have g5 : ¬ ((nn : Int) > (l0.length : Int) - (at_ : Int)) := by omega
      have hw2 : IntKind.i64.wrap ((at_ : Int) + 2) = p2 := by rw [IntKind.wrap_i64]; omega
      have hw4 : IntKind.i64.wrap ((at_ : Int) + 4) = p4 := by rw [IntKind.wrap_i64]; omega
      have hw8 : IntKind.i64.wrap ((at_ : Int) + 8) = p8 := by rw [IntKind.wrap_i64]; omega
      have hw12 : IntKind.i64.wrap ((at_ : Int) + 12) = (at_ : Int) + 12 := by rw [IntKind.wrap_i64]; omega
      have hw13 : IntKind.i64.wrap ((at_ : Int) + 13) = (at_ : Int) + 13 := by rw [IntKind.wrap_i64]; omega
      have hw14 : IntKind.i64.wrap ((at_ : Int) + 14) = (at_ : Int) + 14 := by rw [IntKind.wrap_i64]; omega
      have hw15 : IntKind.i64.wrap ((at_ : Int) + 15) = (at_ : Int) + 15 := by rw [IntKind.wrap_i64]; omega
      have hw16 : IntKind.i64.wrap ((at_ : Int) + 16) = (at_ : Int) + 16 := by rw [IntKind.wrap_i64]; omega
      have hwn : IntKind.i64.wrap ((at_ : Int) + (nn : Int)) = (at_ : Int) + (nn : Int) := by rw [IntKind.wrap_i64]; omega
      have qd := fun W (hW : Below wr.heap.size wr W) => rad_ok _ _ LL W (bb2.later hW) (by rw [List.length_drop, hlN]; omega) hd.2.2.2.1 hd.2.2.2.2
      have HRE := hide_ (show bkOf (l0.drop at_) nn LL = (v1, v2, v3, LL) by unfold bkOf; rw [eb1, eb2, eb3, hv1, hv2, hv3])
      obtain ⟨rn, hrn⟩ : ∃ rn, LL.length = rn := ⟨_, rfl⟩
      have HRN := hide_ hrn
      have q0 := hide_ q0
      have q2 := hide_ q2
      have q4 := hide_ q4
      have q8 := hide_ q8
      have qd := hide_ qd
      have hle := hide_ hle
      clear hp2 hp4 hp8
      clear hd hcut hN hz hnz i12 i13 i14 i15 hat eb1 eb2 eb3 hv1 hv2 hv3 bb2 hrn hlN hlr
      have J1 : Hid (Below wr.heap.size wr (wr.alloc (.cells #[.int .i64 0, .int .i64 0, .int .i64 0, .slice none 0 0] 87))) := hide_ (below1 wr _)
      have J2 : Hid (Below wr.heap.size wr (wr.alloc (.cells #[.int .i64 v1, .int .i64 0, .int .i64 0, .slice none 0 0] 87))) := hide_ (below1 wr _)
      have J3 : Hid (Below wr.heap.size wr (wr.alloc (.cells #[.int .i64 v1, .int .i64 v2, .int .i64 0, .slice none 0 0] 87))) := hide_ (below1 wr _)
      have J4 : Hid (Below wr.heap.size wr (wr.alloc (.cells #[.int .i64 v1, .int .i64 v2, .int .i64 v3, .slice none 0 0] 87))) := hide_ (below1 wr _)
      have X4 : Hid (AB (wr.alloc (.cells #[.int .i64 v1, .int .i64 v2, .int .i64 v3, .slice none 0 0] 87)) wr.heap.size 87 [.int .i64 v1, .int .i64 v2, .int .i64 v3, .slice none 0 0]) := hide_ (AB.at0 wr 87 [.int .i64 v1, .int .i64 v2, .int .i64 v3, .slice none 0 0])
      go_upto_region 19 with (first | (go_at_call_of 55 (Value.int IntKind.i64 (at_ : Int)); refine (q0.out).mono ?_; rintro e w9 ⟨er0, rfl, rfl⟩) | (go_at_call_of 55 (Value.int IntKind.i64 p2); refine (q2.out _ J1.out).mono ?_; rintro e w9 ⟨er2, rfl, rfl⟩) | (go_at_call_of 55 (Value.int IntKind.i64 p4); refine (q4.out _ J2.out).mono ?_; rintro e w9 ⟨er4, rfl, rfl⟩) | (go_at_call_of 55 (Value.int IntKind.i64 p8); refine (q8.out _ J3.out).mono ?_; rintro e w9 ⟨er8, rfl, rfl⟩) | (go_at_call 96; refine (qd.out _ J4.out).mono ?_; rintro e w5 ⟨⟨r, rfl, ho⟩, b5⟩; obtain ⟨ru, rc, er⟩ := ownr_form ho; rw [HRN.out] at er; subst er; have HA5 := hide_ ho; have hb5 := hide_ b5; obtain ⟨z0, z1, z2, z3, z4, z5, z6, z7⟩ := ((X4.out.later b5).alloc (.cells #[.bool false, .int .i64 0, .int .i64 0] 44)).k4; obtain ⟨f0, f1, f2, -⟩ := (AB.at0 w5 44 [.bool false, .int .i64 0, .int .i64 0]).three; clear ho b5))
      have X6 : AB ((w5.alloc (.cells #[.bool false, .int .i64 0, .int .i64 0] 44)).setCell ⟨wr.heap.size, 3, none⟩ (.slice ru rn rc)) wr.heap.size 87 [.int .i64 v1, .int .i64 v2, .int .i64 v3, .slice ru rn rc] := (((X4.out.later hb5.out).alloc (.cells #[.bool false, .int .i64 0, .int .i64 0] 44)).set (j := 3) (.slice ru rn rc))
      have K5 : Below wr.heap.size wr (w5.alloc (.cells #[.bool false, .int .i64 0, .int .i64 0] 44)) := J4.out.trans ((hb5.out.trans ((below1 w5 (.cells #[.bool false, .int .i64 0, .int .i64 0] 44)).mono hb5.out.size)).mono J4.out.size)
      have K6 : Below wr.heap.size wr ((w5.alloc (.cells #[.bool false, .int .i64 0, .int .i64 0] 44)).setCell ⟨wr.heap.size, 3, none⟩ (.slice ru rn rc)) := K5.setCell (p := ⟨wr.heap.size, 3, none⟩) (Nat.le_refl _) _
      have HRV := hide_ (HOw.out.later K6)
      have hlt4 : wr.heap.size < (wr.alloc (.cells #[.int .i64 v1, .int .i64 v2, .int .i64 v3, .slice none 0 0] 87)).heap.size := X4.out.lt
      have hg0 : (w.heap.size + 1) ≤ wr.heap.size := Nat.le_trans HSZ.out KB.out.size
      have HAV := hide_ (ownr_base (far1row (ownr_later HA5.out (below1 w5 (.cells #[.bool false, .int .i64 0, .int .i64 0] 44))) hlt4 3 (.slice ru rn rc)) (Nat.le_trans hg0 (Nat.le_of_lt hlt4)))
      have hsV := hide_ (Nat.le_trans hg0 K6.size)
      have KV := hide_ (KB.out.trans (K6.mono hg0))
      obtain ⟨c0, c1, c2, c3, -⟩ := X6.k4
      clear X6 K5 K6 hlt4 hg0 z0 z1 z2 z3 z4 z5 z6 z7 f0 f1 f2 hb5 HA5 X4 J1 J2 J3 J4
      generalize ((w5.alloc (.cells #[.bool false, .int .i64 0, .int .i64 0] 44)).setCell ⟨wr.heap.size, 3, none⟩ (.slice ru rn rc)) = V at *
      go_wp2_with (at_builtin; refine wpList_append_newG (.tmp 121) (.tmp 123) 48 rfl 87 i0 (.agg #[.int .i64 0, .int .i64 0, .int .i64 0, .slice none 0 0]) 4 48 Tryz.underlying48 HI.out.1 HI.out.2.1 HI.out.2.2.1 HI.out.2.2.2 rfl (by decide) (w.heap.size + 1) (.slice ua m uc) m (bds P) (by simp [Act.eval, Act.put]) V (by have := HRV.out.1; rw [← HM.out] at this; exact this) [.int .i64 v1, .int .i64 v2, .int .i64 v3, .slice ru rn rc] _ rfl 1 (by simp) (by simp [Value.oneCell']) (by simp [Act.eval, Act.put]) (by simp [Region.wanted]) (by unfold maxLen; omega) (by omega) hsV.out ?_; intro v8 w8 own8 b8 g8)
      have HAV2 : V.ownsRow (w.heap.size + 1) 61 11 (.slice ru rn rc) LL.length (ads LL) := by have := HAV.out; rw [← HRN.out] at this ⊢; exact this
      have R8 : BRow w8 (w.heap.size + 1) v8 (P ++ [((v1, v2, v3, LL), (.slice ru rn rc))]) := BRow.push HRV.out HAV2 (by rw [← HM.out]; exact own8) g8
      have hl8 : (P ++ [((v1, v2, v3, LL), Value.slice ru rn rc)]).length = m + 1 := by rw [List.length_append, ← HM.out]; rfl
      obtain ⟨ua8, uc8, e8⟩ := ownr_form R8.1
      rw [hl8] at e8
      subst e8
      have R8 := hide_ R8
      have HM8 := hide_ hl8.symm
      have HK2 := hide_ (show (P ++ [((v1, v2, v3, LL), Value.slice ru rn rc)]).map (·.1) = pre ++ [(v1, v2, v3, LL)] by rw [List.map_append, HK.out]; rfl)
      have K8 := hide_ (KV.out.trans b8)
      have HWN := hide_ (show (at_ : Int) + (nn : Int) = ((at_ + nn : Nat) : Int) by omega)
      clear hl8 own8 g8 b8 HAV2
      go_wp2
      go_roundw
      case rel => exact ⟨at_ + nn, m + 1, ua8, uc8, pre ++ [(v1, v2, v3, LL)], P ++ [((v1, v2, v3, LL), .slice ru rn rc)], RR, by first | (rw [HWN.out]; done) | simp, rfl, hle.out, by omega, HM8, R8, hide_ ⟨by rw [← List.drop_drop]; exact hrest.out, by rw [← hpre.out, HRE.out]; simp⟩, HK2, K8⟩
      case measure => simp [intOf]; omega

end Go.Proofs.YthhijfphfcmniaaGreat

namespace Go.Proofs.YthhijfphfcmniaaGreat
open Go Go.RowKit
set_option linter.unusedVariables false
set_option linter.unusedSimpArgs false

set_option maxRecDepth 100000 in
set_option maxHeartbeats 8000000 in
theorem rbd_big (v : Value) (l0 : List Int) (w : World) (hB : Bytes w v l0) (h6 : 60000 < l0.length) :
    Calls Tryz.prog 71 #[v] w fun e w' => e = .returned (.tuple #[.slice none 0 0, .agg #[.bool true, .int .i64 6, .int .i64 12]]) ∧ Below w.heap.size w w' := by
  have F0 := hide_ (AB.at0 w 44 [.bool false, .int .i64 0, .int .i64 0])
  have B0 := hide_ (below1 w (.cells #[.bool false, .int .i64 0, .int .i64 0] 44))
  obtain ⟨ao0, cap0, rfl, hbr⟩ := hB
  have g6 : (60000 : Int) < (l0.length : Int) := by omega
  clear hbr h6
  go_enter Tryz.func71, Tryz.ntmps71
  go_wp2_with (go_at_call 106; refine (rbad6_any 12 _).mono ?_; rintro e w9 ⟨rfl, b9⟩; obtain ⟨s0, s1, s2, s3, s4, s5⟩ := (F0.out.later b9).three; obtain ⟨u0, u1, u2, -⟩ := ((F0.out.later b9).set3 (.bool true) (.int .i64 6) (.int .i64 12)).three; have bb := below_set3 (g := w.heap.size) (B0.out.trans (b9.mono B0.out.size)) (Nat.le_refl _) (.bool true) (.int .i64 6) (.int .i64 12))
  exact bodyPost_ret (v := .tuple #[.slice none 0 0, .agg #[.bool true, .int .i64 6, .int .i64 12]]) (by simp [results, Tryz.results71, go_sem, u0, u1, u2]) rfl ⟨rfl, bb⟩

end Go.Proofs.YthhijfphfcmniaaGreat

