import Derived.Test.YthhijfphfcmniaaGreatJAe
import Derived.Test.YthhijfphfcmniaaGreatJTe
import Derived.Deep.RegionHeld3
import Derived.Deep.RegionWith
import Derived.Deep.MidRow
import Derived.Deep.Cut
set_option maxRecDepth 100000
set_option maxHeartbeats 8000000
set_option linter.unusedVariables false
set_option linter.unusedSimpArgs false
namespace Go.Proofs.YthhijfphfcmniaaGreat
section
open Go Go.RowKit
inductive AOk (D : List Int → Value → Prop) : List Int → List A11 → Prop
  | nil : AOk D [] []
  | cons {l : List Int} {k p x q y f : Int} {m : Bool} {a b c d : Nat} {n : Nat} {L : List A11} : D l (okV k p x q y f m a b c d n) → art k p x q y f m a b c d = true → 0 < n → n ≤ l.length → aencL k p x q y f m a b c d = l.take n → a < 18446744073709551616 → b < 18446744073709551616 → c < 18446744073709551616 → d < 18446744073709551616 → AOk D (l.drop n) L → AOk D l ((k, p, x, q, y, f, m, a, b, c, d) :: L)
inductive ABad (D : List Int → Value → Prop) : List Int → Int → Prop
  | here {l : List Int} {z : Int} : 0 < l.length → D l (badV z) → ABad D l z
  | cons {l : List Int} {k p x q y f : Int} {m : Bool} {a b c d : Nat} {n : Nat} {z : Int} : D l (okV k p x q y f m a b c d n) → 0 < n → n ≤ l.length → ABad D (l.drop n) z → ABad D l z
theorem acts_all (N : Nat) : ∀ l : List Int, l.length ≤ N → isB l → (∃ L, AOk Ans l L ∧ AOk RAns l L) ∨ ∃ z, ABad Ans l z ∧ ABad RAns l z := by
  induction N with
  | zero =>
    intro l h _
    have e : l = [] := List.eq_nil_of_length_eq_zero (by omega)
    subst e
    exact .inl ⟨[], .nil, .nil⟩
  | succ N ih =>
    intro l h hl
    cases l with
    | nil => exact .inl ⟨[], .nil, .nil⟩
    | cons x0 r0 =>
      rcases adec_all hl with ⟨z, h1, h2⟩ | ⟨k, p, x, q, y, f, m, a, b, c, d, n, h1, h2, hr, he, hn, g1, g2, g3, g4⟩
      · exact .inr ⟨z, .here (by simp) h1, .here (by simp) h2⟩
      · have hn0 : 0 < n := by
          have h8 := (aenc_len g1 g2 g3 g4 hr).2.2
          rw [he, List.length_take] at h8
          omega
        have hlen : ((x0 :: r0).drop n).length ≤ N := by rw [List.length_drop]; omega
        rcases ih ((x0 :: r0).drop n) hlen (fun z hz => hl z (List.mem_of_mem_drop hz)) with ⟨L, hL, hL2⟩ | ⟨z, hz, hz2⟩
        · exact .inl ⟨_, .cons h1 hr hn0 hn he g1 g2 g3 g4 hL, .cons h2 hr hn0 hn he g1 g2 g3 g4 hL2⟩
        · exact .inr ⟨z, .cons h1 hn0 hn hz, .cons h2 hn0 hn hz2⟩
theorem aok_enc : ∀ L : List A11, AFit L → L.all artO = true → AOk Ans (encA L) L
  | [], _, _ => .nil
  | (k, p, x, q, y, f, m, a, b, c, d) :: r, hF, hr => by
    have hr' : art k p x q y f m a b c d = true ∧ r.all artO = true := by
      rw [List.all_cons, Bool.and_eq_true] at hr
      exact hr
    obtain ⟨g1, g2, g3, g4⟩ := hF k p x q y f m a b c d (by simp)
    have h8 := (aenc_len g1 g2 g3 g4 hr'.1).2.2
    obtain ⟨N, h1, h2, h3, h4⟩ := adec_enc (encA r) g1 g2 g3 g4 hr'.1
    have e : encA ((k, p, x, q, y, f, m, a, b, c, d) :: r) = aencL k p x q y f m a b c d ++ encA r := by simp [encA, aencO]
    rw [e]
    refine .cons h1 hr'.1 (by omega) (by rw [List.length_append]; omega) (by rw [← h2, List.take_left]) g1 g2 g3 g4 ?_
    rw [← h2, List.drop_left]
    exact aok_enc r hF.tail hr'.2
theorem take_snoc {pre : List A11} {K : List A11} {o : A11} (h : K = pre.take 101) (hk : K.length ≤ 100) : K ++ [o] = (pre ++ [o]).take 101 := by
  have hp : pre.length ≤ 100 := by rw [h, List.length_take] at hk; omega
  have e : K = pre := by rw [h, List.take_of_length_le (by omega)]
  rw [e, List.take_of_length_le (by simp; omega)]
theorem take_skip {pre : List A11} {K : List A11} {o : A11} (h : K = pre.take 101) (hk : ¬ K.length ≤ 100) : K = (pre ++ [o]).take 101 := by
  have hp : 101 ≤ pre.length := by rw [h, List.length_take] at hk; omega
  rw [h, List.take_append_of_le_length hp]
def slen2 : Value → Nat | .slice _ n _ => n | _ => 0
theorem far3row {w : World} {base g n sz : Nat} {e : TypeId} {v : Value} {xs : List Value} (ho : w.ownsRow base e sz v n xs) (hg : g < base) : ∀ x y z : Value, (((w.setCell ⟨g, 0, none⟩ x).setCell ⟨g, 1, none⟩ y).setCell ⟨g, 2, none⟩ z).ownsRow base e sz v n xs := by
  intro x y z
  refine ⟨ho.1, ?_⟩
  rcases ho.2 with hn | ⟨g', cap, cur, rfl, hb, hgg, rest⟩
  · exact .inl hn
  · refine .inr ⟨g', cap, cur, rfl, hb, ?_, rest⟩
    have far : ∀ (w : World) (j : Nat) (u : Value), (w.setCell ⟨g, j, none⟩ u).heap[g']? = w.heap[g']? := fun w j u => Below.heap_setCell w _ u g' (by show g' ≠ g; omega)
    rw [far, far, far]
    exact hgg
theorem ad_ok (v : Value) (l0 : List Int) (L : List A11) (w : World) (hB : Bytes w v l0) (hP : AOk Ans l0 L) (hLL : L.length ≤ 100) :
    Calls Tryz.prog 93 #[v] w fun e w' => (∃ r, e = .returned (.tuple #[r, .agg #[.bool false, .int .i64 0, .int .i64 0]]) ∧ w'.ownsRow w.heap.size 61 11 r L.length (ads L)) ∧ Below w.heap.size w w' := by
  have F0 := h_ (AB.at0 w 44 [.bool false, .int .i64 0, .int .i64 0])
  have B0 := h_ (below1 w (.cells #[.bool false, .int .i64 0, .int .i64 0] 44))
  obtain ⟨ao0, cap0, rfl, hbr⟩ := hB
  have hB : Bytes w (.slice ao0 l0.length cap0) l0 := ⟨ao0, cap0, rfl, hbr⟩
  have HB0 := h_ (hB.later B0.out)
  clear hB hbr
  obtain ⟨i0, hi0, hz0, hz1, hz2⟩ := info_parts infoAc
  have HI : Hid (Tryz.prog.info? 61 = some i0 ∧ i0.zero = some (.agg #[.int .i64 0, .int .i64 0, .int .i64 0, .int .i64 0, .int .i64 0, .int .i64 0, .bool false, .int .u64 0, .int .u64 0, .int .u64 0, .int .u64 0]) ∧ i0.size = 11 ∧ i0.bytes = 88) := ⟨hi0, hz0, hz1, hz2⟩
  clear hi0 hz0 hz1 hz2
  have HP := h_ hP
  clear hP
  have HLL := h_ hLL
  clear hLL
  go_enter Tryz.func93, Tryz.ntmps93
  go_wp2
  go_loopw [0, 4] (fun b u wr => ∃ (ao : Option Addr) (n cap : Nat) (ua : Option Addr) (uc : Nat) (l : List Int) (pre K : List A11) (R : List A11), b = .slice ao n cap ∧ u = .slice ua K.length uc ∧ n = l.length ∧ K.length ≤ 101 ∧ Hid (Bytes (w.alloc (.cells #[.bool false, .int .i64 0, .int .i64 0] 44)) (.slice ao n cap) l) ∧ Hid (wr.ownsRow (w.alloc (.cells #[.bool false, .int .i64 0, .int .i64 0] 44)).heap.size 61 11 (.slice ua K.length uc) K.length (ads K)) ∧ Hid (AOk Ans l R ∧ pre ++ R = L) ∧ Hid (K = pre.take 101) ∧ Hid (Below (w.alloc (.cells #[.bool false, .int .i64 0, .int .i64 0] 44)).heap.size (w.alloc (.cells #[.bool false, .int .i64 0, .int .i64 0] 44)) wr)) (fun b _ _ => slen2 b)
  case atStart => exact ⟨ao0, l0.length, cap0, none, 0, l0, [], [], L, rfl, rfl, rfl, by simp, HB0, h_ (World.ownsRow_nil _ _ _ _), h_ ⟨HP.out, rfl⟩, h_ rfl, h_ (Below.refl _ _)⟩
  case round =>
    obtain ⟨ao, n, cap, ua, uc, l, pre, K, R, rfl, rfl, rfl, hKl, HBy, HOw, HPP, HK, KB⟩ := hrel
    obtain ⟨hpo, hpre⟩ := HPP.out
    clear HPP
    cases hpo with
    | nil =>
      have hpr : pre = L := by simpa using hpre
      obtain ⟨s0, s1, s2, s3, s4, s5⟩ := (F0.out.later KB.out).three
      obtain ⟨u0, u1, u2, -⟩ := ((F0.out.later KB.out).set3 (.bool false) (.int .i64 0) (.int .i64 0)).three
      have bb := below_set3 (g := w.heap.size) (B0.out.trans (KB.out.mono B0.out.size)) (Nat.le_refl _) (.bool false) (.int .i64 0) (.int .i64 0)
      have hne : w.heap.size < (w.alloc (.cells #[.bool false, .int .i64 0, .int .i64 0] 44)).heap.size := by simp
      have HX := h_ (far3row HOw.out hne)
      have hKL : K = L := by rw [HK.out, hpr, List.take_of_length_le (by have := HLL.out; omega)]
      have g100 : ¬ (100 : Int) < (K.length : Int) := by rw [hKL]; have := HLL.out; omega
      have HKL := h_ hKL
      clear hpre hpr hKL
      go_wp2
      refine bodyPost_ret (v := .tuple #[.slice ua K.length uc, .agg #[.bool false, .int .i64 0, .int .i64 0]]) (by simp [results, Tryz.results93, go_sem, u0, u1, u2]) rfl ⟨⟨_, rfl, ?_⟩, bb⟩
      rw [← HKL.out]
      exact ownr_base (HX.out _ _ _) (by simp)
    | @cons _ k p x q y f m a b c d nn RR hd hr h0 hle he g1 g2 g3 g4 hrest =>
      have qd := hd _ wr (HBy.out.later KB.out)
      unfold okV at qd
      have qd := h_ qd
      obtain ⟨ao2, -, s2, b2⟩ := bytes_slice HBy.out nn hle
      have HB2 := h_ b2
      clear b2 hd
      have gpos : (0 : Int) < (l.length : Int) := by omega
      by_cases hk : K.length ≤ 100
      · have g100 : (K.length : Int) ≤ 100 := by omega
        have HK2 := h_ (take_snoc (o := (k, p, x, q, y, f, m, a, b, c, d)) HK.out hk)
        go_wp2_with (first | (go_at_call 124; refine (qd.out).mono ?_; rintro e w3 ⟨rfl, b3⟩; have j3 : Below wr.heap.size wr ((w3.alloc (.cells #[.int .i64 k, .int .i64 p, .int .i64 x, .int .i64 q, .int .i64 y, .int .i64 f, .bool m, .int .u64 (a : Int), .int .u64 (b : Int), .int .u64 (c : Int), .int .u64 (d : Int)] 61)).alloc (.cells #[.bool false, .int .i64 0, .int .i64 0] 44)) := b3.trans ((below2 w3 _ _).mono b3.size); have K3 := KB.out.trans (j3.mono KB.out.size); obtain ⟨o0, o1, o2, o3, o4, o5, o6, o7, o8, o9, o10, -⟩ := ((AB.at0 w3 61 [.int .i64 k, .int .i64 p, .int .i64 x, .int .i64 q, .int .i64 y, .int .i64 f, .bool m, .int .u64 (a : Int), .int .u64 (b : Int), .int .u64 (c : Int), .int .u64 (d : Int)]).alloc (.cells #[.bool false, .int .i64 0, .int .i64 0] 44)).eleven; obtain ⟨f0, f1, f2, -⟩ := (AB.at1 w3 (.cells #[.int .i64 k, .int .i64 p, .int .i64 x, .int .i64 q, .int .i64 y, .int .i64 f, .bool m, .int .u64 (a : Int), .int .u64 (b : Int), .int .u64 (c : Int), .int .u64 (d : Int)] 61) 44 [.bool false, .int .i64 0, .int .i64 0]).three) | (at_builtin; refine wpList_append_new (.tmp 23) (.tmp 25) 32 rfl 61 i0 (.agg #[.int .i64 0, .int .i64 0, .int .i64 0, .int .i64 0, .int .i64 0, .int .i64 0, .bool false, .int .u64 0, .int .u64 0, .int .u64 0, .int .u64 0]) 11 88 Tryz.underlying32 HI.out.1 HI.out.2.1 HI.out.2.2.1 HI.out.2.2.2 rfl (by decide) (w.alloc (.cells #[.bool false, .int .i64 0, .int .i64 0] 44)).heap.size (.slice ua K.length uc) K.length (ads K) (by simp [Act.eval, Act.put]) ((w3.alloc (.cells #[.int .i64 k, .int .i64 p, .int .i64 x, .int .i64 q, .int .i64 y, .int .i64 f, .bool m, .int .u64 (a : Int), .int .u64 (b : Int), .int .u64 (c : Int), .int .u64 (d : Int)] 61)).alloc (.cells #[.bool false, .int .i64 0, .int .i64 0] 44)) (ownr_later HOw.out j3) [.int .i64 k, .int .i64 p, .int .i64 x, .int .i64 q, .int .i64 y, .int .i64 f, .bool m, .int .u64 (a : Int), .int .u64 (b : Int), .int .u64 (c : Int), .int .u64 (d : Int)] _ rfl 1 (by simp) (by simp [Value.oneCell']) (by simp [Act.eval, Act.put]) (by simp [Region.wanted]) (by unfold maxLen; omega) (by omega) K3.size ?_; intro v4 w4 own4 b4))
        have own4 : w4.ownsRow (w.alloc (.cells #[.bool false, .int .i64 0, .int .i64 0] 44)).heap.size 61 11 v4 (K ++ [(k, p, x, q, y, f, m, a, b, c, d)]).length (ads (K ++ [(k, p, x, q, y, f, m, a, b, c, d)])) := by
          rw [ads_snoc, List.length_append]
          exact own4
        obtain ⟨ua4, uc4, e4⟩ := ownr_form own4
        subst e4
        have own4 := h_ own4
        go_wp2
        go_roundw
        case rel => exact ⟨ao2, l.length - nn, cap - nn, ua4, uc4, l.drop nn, pre ++ [(k, p, x, q, y, f, m, a, b, c, d)], K ++ [(k, p, x, q, y, f, m, a, b, c, d)], RR, rfl, rfl, by rw [List.length_drop], by simp; omega, HB2, own4, h_ ⟨hrest, by rw [← hpre]; simp⟩, HK2, h_ (K3.trans b4)⟩
        case measure => simp [slen2]; omega
      · have g100 : ¬ ((K.length : Int) ≤ 100) := by omega
        have HK2 := h_ (take_skip (o := (k, p, x, q, y, f, m, a, b, c, d)) HK.out hk)
        go_wp2_with (go_at_call 124; refine (qd.out).mono ?_; rintro e w3 ⟨rfl, b3⟩; have j3 : Below wr.heap.size wr ((w3.alloc (.cells #[.int .i64 k, .int .i64 p, .int .i64 x, .int .i64 q, .int .i64 y, .int .i64 f, .bool m, .int .u64 (a : Int), .int .u64 (b : Int), .int .u64 (c : Int), .int .u64 (d : Int)] 61)).alloc (.cells #[.bool false, .int .i64 0, .int .i64 0] 44)) := b3.trans ((below2 w3 _ _).mono b3.size); have K3 := KB.out.trans (j3.mono KB.out.size); obtain ⟨o0, o1, o2, o3, o4, o5, o6, o7, o8, o9, o10, -⟩ := ((AB.at0 w3 61 [.int .i64 k, .int .i64 p, .int .i64 x, .int .i64 q, .int .i64 y, .int .i64 f, .bool m, .int .u64 (a : Int), .int .u64 (b : Int), .int .u64 (c : Int), .int .u64 (d : Int)]).alloc (.cells #[.bool false, .int .i64 0, .int .i64 0] 44)).eleven; obtain ⟨f0, f1, f2, -⟩ := (AB.at1 w3 (.cells #[.int .i64 k, .int .i64 p, .int .i64 x, .int .i64 q, .int .i64 y, .int .i64 f, .bool m, .int .u64 (a : Int), .int .u64 (b : Int), .int .u64 (c : Int), .int .u64 (d : Int)] 61) 44 [.bool false, .int .i64 0, .int .i64 0]).three)
        go_roundw
        case rel => exact ⟨ao2, l.length - nn, cap - nn, ua, uc, l.drop nn, pre ++ [(k, p, x, q, y, f, m, a, b, c, d)], K, RR, rfl, rfl, by rw [List.length_drop], by omega, HB2, h_ (ownr_later HOw.out j3), h_ ⟨hrest, by rw [← hpre]; simp⟩, HK2, h_ K3⟩
        case measure => simp [slen2]; omega
theorem ad_many (v : Value) (l0 : List Int) (L : List A11) (w : World) (hB : Bytes w v l0) (hP : AOk Ans l0 L) (hLL : 100 < L.length) :
    Calls Tryz.prog 93 #[v] w fun e w' => (e = .returned (.tuple #[.slice none 0 0, .agg #[.bool true, .int .i64 2, .int .i64 7]])) ∧ Below w.heap.size w w' := by
  have F0 := h_ (AB.at0 w 44 [.bool false, .int .i64 0, .int .i64 0])
  have B0 := h_ (below1 w (.cells #[.bool false, .int .i64 0, .int .i64 0] 44))
  obtain ⟨ao0, cap0, rfl, hbr⟩ := hB
  have hB : Bytes w (.slice ao0 l0.length cap0) l0 := ⟨ao0, cap0, rfl, hbr⟩
  have HB0 := h_ (hB.later B0.out)
  clear hB hbr
  obtain ⟨i0, hi0, hz0, hz1, hz2⟩ := info_parts infoAc
  have HI : Hid (Tryz.prog.info? 61 = some i0 ∧ i0.zero = some (.agg #[.int .i64 0, .int .i64 0, .int .i64 0, .int .i64 0, .int .i64 0, .int .i64 0, .bool false, .int .u64 0, .int .u64 0, .int .u64 0, .int .u64 0]) ∧ i0.size = 11 ∧ i0.bytes = 88) := ⟨hi0, hz0, hz1, hz2⟩
  clear hi0 hz0 hz1 hz2
  have HP := h_ hP
  clear hP
  have HLL := h_ hLL
  clear hLL
  go_enter Tryz.func93, Tryz.ntmps93
  go_wp2
  go_loopw [0, 4] (fun b u wr => ∃ (ao : Option Addr) (n cap : Nat) (ua : Option Addr) (uc : Nat) (l : List Int) (pre K : List A11) (R : List A11), b = .slice ao n cap ∧ u = .slice ua K.length uc ∧ n = l.length ∧ K.length ≤ 101 ∧ Hid (Bytes (w.alloc (.cells #[.bool false, .int .i64 0, .int .i64 0] 44)) (.slice ao n cap) l) ∧ Hid (wr.ownsRow (w.alloc (.cells #[.bool false, .int .i64 0, .int .i64 0] 44)).heap.size 61 11 (.slice ua K.length uc) K.length (ads K)) ∧ Hid (AOk Ans l R ∧ pre ++ R = L) ∧ Hid (K = pre.take 101) ∧ Hid (Below (w.alloc (.cells #[.bool false, .int .i64 0, .int .i64 0] 44)).heap.size (w.alloc (.cells #[.bool false, .int .i64 0, .int .i64 0] 44)) wr)) (fun b _ _ => slen2 b)
  case atStart => exact ⟨ao0, l0.length, cap0, none, 0, l0, [], [], L, rfl, rfl, rfl, by simp, HB0, h_ (World.ownsRow_nil _ _ _ _), h_ ⟨HP.out, rfl⟩, h_ rfl, h_ (Below.refl _ _)⟩
  case round =>
    obtain ⟨ao, n, cap, ua, uc, l, pre, K, R, rfl, rfl, rfl, hKl, HBy, HOw, HPP, HK, KB⟩ := hrel
    obtain ⟨hpo, hpre⟩ := HPP.out
    clear HPP
    cases hpo with
    | nil =>
      have hpr : pre = L := by simpa using hpre
      obtain ⟨s0, s1, s2, s3, s4, s5⟩ := (F0.out.later KB.out).three
      obtain ⟨u0, u1, u2, -⟩ := ((F0.out.later KB.out).set3 (.bool true) (.int .i64 2) (.int .i64 7)).three
      have bb := below_set3 (g := w.heap.size) (B0.out.trans (KB.out.mono B0.out.size)) (Nat.le_refl _) (.bool true) (.int .i64 2) (.int .i64 7)
      have g100 : (100 : Int) < (K.length : Int) := by rw [HK.out, hpr, List.length_take]; have := HLL.out; omega
      clear hpre hpr
      go_wp2
      exact bodyPost_ret (v := .tuple #[.slice none 0 0, .agg #[.bool true, .int .i64 2, .int .i64 7]]) (by simp [results, Tryz.results93, go_sem, u0, u1, u2]) rfl ⟨rfl, bb⟩
    | @cons _ k p x q y f m a b c d nn RR hd hr h0 hle he g1 g2 g3 g4 hrest =>
      have qd := hd _ wr (HBy.out.later KB.out)
      unfold okV at qd
      have qd := h_ qd
      obtain ⟨ao2, -, s2, b2⟩ := bytes_slice HBy.out nn hle
      have HB2 := h_ b2
      clear b2 hd
      have gpos : (0 : Int) < (l.length : Int) := by omega
      by_cases hk : K.length ≤ 100
      · have g100 : (K.length : Int) ≤ 100 := by omega
        have HK2 := h_ (take_snoc (o := (k, p, x, q, y, f, m, a, b, c, d)) HK.out hk)
        go_wp2_with (first | (go_at_call 124; refine (qd.out).mono ?_; rintro e w3 ⟨rfl, b3⟩; have j3 : Below wr.heap.size wr ((w3.alloc (.cells #[.int .i64 k, .int .i64 p, .int .i64 x, .int .i64 q, .int .i64 y, .int .i64 f, .bool m, .int .u64 (a : Int), .int .u64 (b : Int), .int .u64 (c : Int), .int .u64 (d : Int)] 61)).alloc (.cells #[.bool false, .int .i64 0, .int .i64 0] 44)) := b3.trans ((below2 w3 _ _).mono b3.size); have K3 := KB.out.trans (j3.mono KB.out.size); obtain ⟨o0, o1, o2, o3, o4, o5, o6, o7, o8, o9, o10, -⟩ := ((AB.at0 w3 61 [.int .i64 k, .int .i64 p, .int .i64 x, .int .i64 q, .int .i64 y, .int .i64 f, .bool m, .int .u64 (a : Int), .int .u64 (b : Int), .int .u64 (c : Int), .int .u64 (d : Int)]).alloc (.cells #[.bool false, .int .i64 0, .int .i64 0] 44)).eleven; obtain ⟨f0, f1, f2, -⟩ := (AB.at1 w3 (.cells #[.int .i64 k, .int .i64 p, .int .i64 x, .int .i64 q, .int .i64 y, .int .i64 f, .bool m, .int .u64 (a : Int), .int .u64 (b : Int), .int .u64 (c : Int), .int .u64 (d : Int)] 61) 44 [.bool false, .int .i64 0, .int .i64 0]).three) | (at_builtin; refine wpList_append_new (.tmp 23) (.tmp 25) 32 rfl 61 i0 (.agg #[.int .i64 0, .int .i64 0, .int .i64 0, .int .i64 0, .int .i64 0, .int .i64 0, .bool false, .int .u64 0, .int .u64 0, .int .u64 0, .int .u64 0]) 11 88 Tryz.underlying32 HI.out.1 HI.out.2.1 HI.out.2.2.1 HI.out.2.2.2 rfl (by decide) (w.alloc (.cells #[.bool false, .int .i64 0, .int .i64 0] 44)).heap.size (.slice ua K.length uc) K.length (ads K) (by simp [Act.eval, Act.put]) ((w3.alloc (.cells #[.int .i64 k, .int .i64 p, .int .i64 x, .int .i64 q, .int .i64 y, .int .i64 f, .bool m, .int .u64 (a : Int), .int .u64 (b : Int), .int .u64 (c : Int), .int .u64 (d : Int)] 61)).alloc (.cells #[.bool false, .int .i64 0, .int .i64 0] 44)) (ownr_later HOw.out j3) [.int .i64 k, .int .i64 p, .int .i64 x, .int .i64 q, .int .i64 y, .int .i64 f, .bool m, .int .u64 (a : Int), .int .u64 (b : Int), .int .u64 (c : Int), .int .u64 (d : Int)] _ rfl 1 (by simp) (by simp [Value.oneCell']) (by simp [Act.eval, Act.put]) (by simp [Region.wanted]) (by unfold maxLen; omega) (by omega) K3.size ?_; intro v4 w4 own4 b4))
        have own4 : w4.ownsRow (w.alloc (.cells #[.bool false, .int .i64 0, .int .i64 0] 44)).heap.size 61 11 v4 (K ++ [(k, p, x, q, y, f, m, a, b, c, d)]).length (ads (K ++ [(k, p, x, q, y, f, m, a, b, c, d)])) := by
          rw [ads_snoc, List.length_append]
          exact own4
        obtain ⟨ua4, uc4, e4⟩ := ownr_form own4
        subst e4
        have own4 := h_ own4
        go_wp2
        go_roundw
        case rel => exact ⟨ao2, l.length - nn, cap - nn, ua4, uc4, l.drop nn, pre ++ [(k, p, x, q, y, f, m, a, b, c, d)], K ++ [(k, p, x, q, y, f, m, a, b, c, d)], RR, rfl, rfl, by rw [List.length_drop], by simp; omega, HB2, own4, h_ ⟨hrest, by rw [← hpre]; simp⟩, HK2, h_ (K3.trans b4)⟩
        case measure => simp [slen2]; omega
      · have g100 : ¬ ((K.length : Int) ≤ 100) := by omega
        have HK2 := h_ (take_skip (o := (k, p, x, q, y, f, m, a, b, c, d)) HK.out hk)
        go_wp2_with (go_at_call 124; refine (qd.out).mono ?_; rintro e w3 ⟨rfl, b3⟩; have j3 : Below wr.heap.size wr ((w3.alloc (.cells #[.int .i64 k, .int .i64 p, .int .i64 x, .int .i64 q, .int .i64 y, .int .i64 f, .bool m, .int .u64 (a : Int), .int .u64 (b : Int), .int .u64 (c : Int), .int .u64 (d : Int)] 61)).alloc (.cells #[.bool false, .int .i64 0, .int .i64 0] 44)) := b3.trans ((below2 w3 _ _).mono b3.size); have K3 := KB.out.trans (j3.mono KB.out.size); obtain ⟨o0, o1, o2, o3, o4, o5, o6, o7, o8, o9, o10, -⟩ := ((AB.at0 w3 61 [.int .i64 k, .int .i64 p, .int .i64 x, .int .i64 q, .int .i64 y, .int .i64 f, .bool m, .int .u64 (a : Int), .int .u64 (b : Int), .int .u64 (c : Int), .int .u64 (d : Int)]).alloc (.cells #[.bool false, .int .i64 0, .int .i64 0] 44)).eleven; obtain ⟨f0, f1, f2, -⟩ := (AB.at1 w3 (.cells #[.int .i64 k, .int .i64 p, .int .i64 x, .int .i64 q, .int .i64 y, .int .i64 f, .bool m, .int .u64 (a : Int), .int .u64 (b : Int), .int .u64 (c : Int), .int .u64 (d : Int)] 61) 44 [.bool false, .int .i64 0, .int .i64 0]).three)
        go_roundw
        case rel => exact ⟨ao2, l.length - nn, cap - nn, ua, uc, l.drop nn, pre ++ [(k, p, x, q, y, f, m, a, b, c, d)], K, RR, rfl, rfl, by rw [List.length_drop], by omega, HB2, h_ (ownr_later HOw.out j3), h_ ⟨hrest, by rw [← hpre]; simp⟩, HK2, h_ K3⟩
        case measure => simp [slen2]; omega
theorem ad_bad (v : Value) (l0 : List Int) (z : Int) (w : World) (hB : Bytes w v l0) (hP : ABad Ans l0 z) :
    Calls Tryz.prog 93 #[v] w fun e w' => (e = .returned (.tuple #[.slice none 0 0, .agg #[.bool true, .int .i64 2, .int .i64 z]])) ∧ Below w.heap.size w w' := by
  have F0 := h_ (AB.at0 w 44 [.bool false, .int .i64 0, .int .i64 0])
  have B0 := h_ (below1 w (.cells #[.bool false, .int .i64 0, .int .i64 0] 44))
  obtain ⟨ao0, cap0, rfl, hbr⟩ := hB
  have hB : Bytes w (.slice ao0 l0.length cap0) l0 := ⟨ao0, cap0, rfl, hbr⟩
  have HB0 := h_ (hB.later B0.out)
  clear hB hbr
  obtain ⟨i0, hi0, hz0, hz1, hz2⟩ := info_parts infoAc
  have HI : Hid (Tryz.prog.info? 61 = some i0 ∧ i0.zero = some (.agg #[.int .i64 0, .int .i64 0, .int .i64 0, .int .i64 0, .int .i64 0, .int .i64 0, .bool false, .int .u64 0, .int .u64 0, .int .u64 0, .int .u64 0]) ∧ i0.size = 11 ∧ i0.bytes = 88) := ⟨hi0, hz0, hz1, hz2⟩
  clear hi0 hz0 hz1 hz2
  have HP := h_ hP
  clear hP
  go_enter Tryz.func93, Tryz.ntmps93
  go_wp2
  go_loopw [0, 4] (fun b u wr => ∃ (ao : Option Addr) (n cap : Nat) (ua : Option Addr) (uc : Nat) (l : List Int) (pre K : List A11), b = .slice ao n cap ∧ u = .slice ua K.length uc ∧ n = l.length ∧ K.length ≤ 101 ∧ Hid (Bytes (w.alloc (.cells #[.bool false, .int .i64 0, .int .i64 0] 44)) (.slice ao n cap) l) ∧ Hid (wr.ownsRow (w.alloc (.cells #[.bool false, .int .i64 0, .int .i64 0] 44)).heap.size 61 11 (.slice ua K.length uc) K.length (ads K)) ∧ Hid (ABad Ans l z) ∧ Hid (K = pre.take 101) ∧ Hid (Below (w.alloc (.cells #[.bool false, .int .i64 0, .int .i64 0] 44)).heap.size (w.alloc (.cells #[.bool false, .int .i64 0, .int .i64 0] 44)) wr)) (fun b _ _ => slen2 b)
  case atStart => exact ⟨ao0, l0.length, cap0, none, 0, l0, [], [], rfl, rfl, rfl, by simp, HB0, h_ (World.ownsRow_nil _ _ _ _), HP, h_ rfl, h_ (Below.refl _ _)⟩
  case round =>
    obtain ⟨ao, n, cap, ua, uc, l, pre, K, rfl, rfl, rfl, hKl, HBy, HOw, HPP, HK, KB⟩ := hrel
    have hpo := HPP.out
    clear HPP
    cases hpo with
    | here h0 hd =>
      have qd := hd _ wr (HBy.out.later KB.out)
      unfold badV at qd
      have qd := h_ qd
      clear hd
      have gpos : (0 : Int) < (l.length : Int) := by omega
      go_upto_region 5 with (first | (go_at_call 124; refine (qd.out).mono ?_; rintro e w3 ⟨rfl, b3⟩; have j3 : Below wr.heap.size wr ((w3.alloc (.cells #[.int .i64 0, .int .i64 0, .int .i64 0, .int .i64 0, .int .i64 0, .int .i64 0, .bool false, .int .u64 0, .int .u64 0, .int .u64 0, .int .u64 0] 61)).alloc (.cells #[.bool true, .int .i64 2, .int .i64 z] 44)) := b3.trans ((below2 w3 _ _).mono b3.size); have K3 := KB.out.trans (j3.mono KB.out.size); obtain ⟨o0, o1, o2, o3, o4, o5, o6, o7, o8, o9, o10, -⟩ := ((AB.at0 w3 61 [.int .i64 0, .int .i64 0, .int .i64 0, .int .i64 0, .int .i64 0, .int .i64 0, .bool false, .int .u64 0, .int .u64 0, .int .u64 0, .int .u64 0]).alloc (.cells #[.bool true, .int .i64 2, .int .i64 z] 44)).eleven; obtain ⟨f0, f1, f2, -⟩ := (AB.at1 w3 (.cells #[.int .i64 0, .int .i64 0, .int .i64 0, .int .i64 0, .int .i64 0, .int .i64 0, .bool false, .int .u64 0, .int .u64 0, .int .u64 0, .int .u64 0] 61) 44 [.bool true, .int .i64 2, .int .i64 z]).three))
      have BX := B0.out.trans (K3.mono B0.out.size)
      have hgw : w.heap.size < w3.heap.size := Nat.lt_of_lt_of_le (Nat.lt_of_lt_of_le (by simp) KB.out.size) b3.size
      have FD := F0.out.later K3
      generalize ((w3.alloc (.cells #[.int .i64 0, .int .i64 0, .int .i64 0, .int .i64 0, .int .i64 0, .int .i64 0, .bool false, .int .u64 0, .int .u64 0, .int .u64 0, .int .u64 0] 61)).alloc (.cells #[.bool true, .int .i64 2, .int .i64 z] 44)) = X at *
      have FD : AB X.drew w.heap.size 44 [.bool false, .int .i64 0, .int .i64 0] := FD
      obtain ⟨s0, s1, s2, s3, s4, s5⟩ := FD.three
      obtain ⟨u0, u1, u2, -⟩ := (FD.set3 (.bool true) (.int .i64 2) (.int .i64 z)).three
      clear FD
      refine wp_region_held_drew (S := (fun w' => w'.cell? ⟨w3.heap.size + 1, 0, none⟩ = some (.bool true) ∧ w'.cell? ⟨w3.heap.size + 1, 1, none⟩ = some (.int .i64 2) ∧ w'.cell? ⟨w3.heap.size + 1, 2, none⟩ = some (.int .i64 z) ∧ Below w.heap.size w w')) (by kernel_rfl) (⟨f0, f1, f2, BX.drew⟩) (fun hHeld => ?_)
      generalize X.drew = D at *
      refine tR 0 ?_ (some 19) rfl (by kernel_rfl) rfl (by rfl) ?_ (fun _ _ _ h => h) (by assumption) ?_
      rotate_left
      · intro w hSw; (try dsimp only at hSw); go_simp; (try with_reducible rfl)
      simp only [Act.put, sIb, sCz, sCs]
      refine tR 1 ?_ (some 2) rfl (by kernel_rfl) rfl (by rfl) ?_ (fun _ _ _ h => h) (by assumption) ?_
      rotate_left
      · intro w hSw; (try dsimp only at hSw); go_simp; (try with_reducible rfl)
      simp only [Act.put, sIb, sCz, sCs]
      refine wpAnyH_ready (rs := [2]) (by kernel_rfl) (by simp) ?_
      refine AllReadyH.cons rfl (fun K hK => ?_) (AllReadyH.nil)
      go_simp
      refine hK.out _ _ (kW3_3 hHeld (by omega) (by dsimp only; omega) (by dsimp only; omega) (by dsimp only; omega)) (fun hHeld => ?_)
      clear hK K
      try simp only [Act.put, sIb, sCz, sCs]
      refine wpAnyH_done (by kernel_rfl) ?_ _
      go_wp2_with fail
      exact bodyPost_ret (v := .tuple #[.slice none 0 0, .agg #[.bool true, .int .i64 2, .int .i64 z]]) (by simp [results, Tryz.results93, go_sem, u0, u1, u2]) rfl ⟨rfl, hHeld.2.2.2⟩
    | @cons _ k p x q y f m a b c d nn _ hd h0 hle hrest =>
      have qd := hd _ wr (HBy.out.later KB.out)
      unfold okV at qd
      have qd := h_ qd
      obtain ⟨ao2, -, s2, b2⟩ := bytes_slice HBy.out nn hle
      have HB2 := h_ b2
      clear b2 hd
      have gpos : (0 : Int) < (l.length : Int) := by omega
      by_cases hk : K.length ≤ 100
      · have g100 : (K.length : Int) ≤ 100 := by omega
        have HK2 := h_ (take_snoc (o := (k, p, x, q, y, f, m, a, b, c, d)) HK.out hk)
        go_wp2_with (first | (go_at_call 124; refine (qd.out).mono ?_; rintro e w3 ⟨rfl, b3⟩; have j3 : Below wr.heap.size wr ((w3.alloc (.cells #[.int .i64 k, .int .i64 p, .int .i64 x, .int .i64 q, .int .i64 y, .int .i64 f, .bool m, .int .u64 (a : Int), .int .u64 (b : Int), .int .u64 (c : Int), .int .u64 (d : Int)] 61)).alloc (.cells #[.bool false, .int .i64 0, .int .i64 0] 44)) := b3.trans ((below2 w3 _ _).mono b3.size); have K3 := KB.out.trans (j3.mono KB.out.size); obtain ⟨o0, o1, o2, o3, o4, o5, o6, o7, o8, o9, o10, -⟩ := ((AB.at0 w3 61 [.int .i64 k, .int .i64 p, .int .i64 x, .int .i64 q, .int .i64 y, .int .i64 f, .bool m, .int .u64 (a : Int), .int .u64 (b : Int), .int .u64 (c : Int), .int .u64 (d : Int)]).alloc (.cells #[.bool false, .int .i64 0, .int .i64 0] 44)).eleven; obtain ⟨f0, f1, f2, -⟩ := (AB.at1 w3 (.cells #[.int .i64 k, .int .i64 p, .int .i64 x, .int .i64 q, .int .i64 y, .int .i64 f, .bool m, .int .u64 (a : Int), .int .u64 (b : Int), .int .u64 (c : Int), .int .u64 (d : Int)] 61) 44 [.bool false, .int .i64 0, .int .i64 0]).three) | (at_builtin; refine wpList_append_new (.tmp 23) (.tmp 25) 32 rfl 61 i0 (.agg #[.int .i64 0, .int .i64 0, .int .i64 0, .int .i64 0, .int .i64 0, .int .i64 0, .bool false, .int .u64 0, .int .u64 0, .int .u64 0, .int .u64 0]) 11 88 Tryz.underlying32 HI.out.1 HI.out.2.1 HI.out.2.2.1 HI.out.2.2.2 rfl (by decide) (w.alloc (.cells #[.bool false, .int .i64 0, .int .i64 0] 44)).heap.size (.slice ua K.length uc) K.length (ads K) (by simp [Act.eval, Act.put]) ((w3.alloc (.cells #[.int .i64 k, .int .i64 p, .int .i64 x, .int .i64 q, .int .i64 y, .int .i64 f, .bool m, .int .u64 (a : Int), .int .u64 (b : Int), .int .u64 (c : Int), .int .u64 (d : Int)] 61)).alloc (.cells #[.bool false, .int .i64 0, .int .i64 0] 44)) (ownr_later HOw.out j3) [.int .i64 k, .int .i64 p, .int .i64 x, .int .i64 q, .int .i64 y, .int .i64 f, .bool m, .int .u64 (a : Int), .int .u64 (b : Int), .int .u64 (c : Int), .int .u64 (d : Int)] _ rfl 1 (by simp) (by simp [Value.oneCell']) (by simp [Act.eval, Act.put]) (by simp [Region.wanted]) (by unfold maxLen; omega) (by omega) K3.size ?_; intro v4 w4 own4 b4))
        have own4 : w4.ownsRow (w.alloc (.cells #[.bool false, .int .i64 0, .int .i64 0] 44)).heap.size 61 11 v4 (K ++ [(k, p, x, q, y, f, m, a, b, c, d)]).length (ads (K ++ [(k, p, x, q, y, f, m, a, b, c, d)])) := by
          rw [ads_snoc, List.length_append]
          exact own4
        obtain ⟨ua4, uc4, e4⟩ := ownr_form own4
        subst e4
        have own4 := h_ own4
        go_wp2
        go_roundw
        case rel => exact ⟨ao2, l.length - nn, cap - nn, ua4, uc4, l.drop nn, pre ++ [(k, p, x, q, y, f, m, a, b, c, d)], K ++ [(k, p, x, q, y, f, m, a, b, c, d)], rfl, rfl, by rw [List.length_drop], by simp; omega, HB2, own4, h_ hrest, HK2, h_ (K3.trans b4)⟩
        case measure => simp [slen2]; omega
      · have g100 : ¬ ((K.length : Int) ≤ 100) := by omega
        have HK2 := h_ (take_skip (o := (k, p, x, q, y, f, m, a, b, c, d)) HK.out hk)
        go_wp2_with (go_at_call 124; refine (qd.out).mono ?_; rintro e w3 ⟨rfl, b3⟩; have j3 : Below wr.heap.size wr ((w3.alloc (.cells #[.int .i64 k, .int .i64 p, .int .i64 x, .int .i64 q, .int .i64 y, .int .i64 f, .bool m, .int .u64 (a : Int), .int .u64 (b : Int), .int .u64 (c : Int), .int .u64 (d : Int)] 61)).alloc (.cells #[.bool false, .int .i64 0, .int .i64 0] 44)) := b3.trans ((below2 w3 _ _).mono b3.size); have K3 := KB.out.trans (j3.mono KB.out.size); obtain ⟨o0, o1, o2, o3, o4, o5, o6, o7, o8, o9, o10, -⟩ := ((AB.at0 w3 61 [.int .i64 k, .int .i64 p, .int .i64 x, .int .i64 q, .int .i64 y, .int .i64 f, .bool m, .int .u64 (a : Int), .int .u64 (b : Int), .int .u64 (c : Int), .int .u64 (d : Int)]).alloc (.cells #[.bool false, .int .i64 0, .int .i64 0] 44)).eleven; obtain ⟨f0, f1, f2, -⟩ := (AB.at1 w3 (.cells #[.int .i64 k, .int .i64 p, .int .i64 x, .int .i64 q, .int .i64 y, .int .i64 f, .bool m, .int .u64 (a : Int), .int .u64 (b : Int), .int .u64 (c : Int), .int .u64 (d : Int)] 61) 44 [.bool false, .int .i64 0, .int .i64 0]).three)
        go_roundw
        case rel => exact ⟨ao2, l.length - nn, cap - nn, ua, uc, l.drop nn, pre ++ [(k, p, x, q, y, f, m, a, b, c, d)], K, rfl, rfl, by rw [List.length_drop], by omega, HB2, h_ (ownr_later HOw.out j3), h_ hrest, HK2, h_ K3⟩
        case measure => simp [slen2]; omega
end
end Go.Proofs.YthhijfphfcmniaaGreat
