import Derived.Test.YthhijfphfcmniaaGreatNLBe
import Derived.Test.YthhijfphfcmniaaGreatNLAe
import Derived.Deep.RegionHeld3
import Derived.Deep.RegionWith
import Derived.Deep.MidRow
import Derived.Deep.Cut
import Derived.Maps.OwnSet
import Derived.Maps.AppendAt
set_option maxRecDepth 100000
set_option maxHeartbeats 8000000
set_option linter.unusedVariables false
set_option linter.unusedSimpArgs false
namespace Go.Proofs.YthhijfphfcmniaaGreat
open Go Go.RowKit
def InstAt (w : World) (v : Value) (L : List I6) : Prop := ∃ s cap, v = .slice s L.length cap ∧ L.length ≤ cap ∧ cap ≤ maxLen ∧ (s = none → cap = 0) ∧
  ∀ (i : Nat) (o : I6), L[i]? = some o → ∃ q off u, s = some ⟨q, off, none⟩ ∧ w.cell? ⟨q, off + i * 7, none⟩ = some (.int .i64 o.1) ∧ w.cell? ⟨q, off + i * 7 + 1, none⟩ = some (.int .i64 o.2.1) ∧ w.cell? ⟨q, off + i * 7 + 2, none⟩ = some (.int .u64 (o.2.2.1.1 : Int)) ∧ w.cell? ⟨q, off + i * 7 + 3, none⟩ = some (.int .u64 (o.2.2.1.2 : Int)) ∧ w.cell? ⟨q, off + i * 7 + 4, none⟩ = some (.int .u64 (o.2.2.2.1.1 : Int)) ∧ w.cell? ⟨q, off + i * 7 + 5, none⟩ = some (.int .u64 (o.2.2.2.1.2 : Int)) ∧ w.cell? ⟨q, off + i * 7 + 6, none⟩ = some (u) ∧ ActAt w u o.2.2.2.2
def LFit (L : List I6) : Prop := ∀ o ∈ L, IFit o ∧ (Lit.int .i64 o.1).wf = true
theorem InstAt.later {w w' : World} {v : Value} {L : List I6} (h : InstAt w v L) (hb : Below w.heap.size w w') : InstAt w' v L := by
  obtain ⟨s, cap, rfl, h1, h2, h3, h4⟩ := h
  refine ⟨s, cap, rfl, h1, h2, h3, fun i o hi => ?_⟩
  obtain ⟨q, off, u, e, x0, x1, x2, x3, x4, x5, x6, hu⟩ := h4 i o hi
  exact ⟨q, off, u, e, cell_later hb x0, cell_later hb x1, cell_later hb x2, cell_later hb x3, cell_later hb x4, cell_later hb x5, cell_later hb x6, hu.later hb⟩
theorem InstAt.nil (w : World) : InstAt w (.slice none 0 0) [] := ⟨none, 0, rfl, Nat.le_refl _, Nat.zero_le _, fun _ => rfl, fun i o h => by simp at h⟩
theorem sameI_iff (x y : I6) : sameI x y = true ↔ x = y := by
  obtain ⟨k, t, a, c, L⟩ := x
  obtain ⟨k2, t2, a2, c2, K⟩ := y
  unfold sameI
  simp only [Bool.and_eq_true, decide_eq_true_eq, Prod.mk.injEq]
  exact ⟨fun ⟨h1, h2, h3, h4, h5⟩ => ⟨h1, h2, h3, h4, sameL_eq h5⟩, fun ⟨h1, h2, h3, h4, h5⟩ => ⟨h1, h2, h3, h4, sameL_true h5⟩⟩
theorem sameI_no {x y : I6} (h : sameI x y = false) : ¬ x = y := fun e => by rw [(sameI_iff x y).2 e] at h; cases h
def sameIL : List I6 → List I6 → Bool
  | [], [] => true
  | x :: r, y :: t => sameI x y && sameIL r t
  | _, _ => false
theorem sameIL_iff : ∀ (L K : List I6), sameIL L K = true ↔ L = K
  | [], [] => by simp [sameIL]
  | [], y :: t => by simp [sameIL]
  | x :: r, [] => by simp [sameIL]
  | x :: r, y :: t => by simp [sameIL, sameI_iff, sameIL_iff r t]
theorem sameIL_true {L K : List I6} (h : L = K) : sameIL L K = true := (sameIL_iff L K).2 h
theorem sameIL_false {L K : List I6} (h : ¬ L = K) : sameIL L K = false := by
  cases e : sameIL L K
  · rfl
  · exact absurd ((sameIL_iff L K).1 e) h
theorem take_sameI {L K : List I6} {k : Nat} {x y : I6} (hT : L.take k = K.take k) (hx : L[k]? = some x) (hy : K[k]? = some y) (e : x = y) : L.take (k + 1) = K.take (k + 1) := by
  rw [List.take_add_one, List.take_add_one, hT, hx, hy, e]
theorem take_diffI {L K : List I6} {k : Nat} {x y : I6} (hx : L[k]? = some x) (hy : K[k]? = some y) (e : ¬ x = y) : ¬ L = K := by
  intro h
  rw [h, hy] at hx
  injection hx with hx
  exact e hx.symm
theorem ieqf_any (v u : Value) (L K : List I6) (w : World) (hL : InstAt w v L) (hK : InstAt w u K) :
    Calls Tryz.prog 43 #[v, u, (.func (.func 44) #[] #[])] w fun e w' => e = .returned (.bool (sameIL L K)) ∧ Below w.heap.size w w' := by
  obtain ⟨s, cap, rfl, h1, h2, h3, h4⟩ := hL
  obtain ⟨s2, cap2, rfl, k1, k2, k3, k4⟩ := hK
  have HL := h_ h4
  have HK := h_ k4
  have hm : L.length ≤ 9223372036854775807 := by unfold maxLen at h2; omega
  have hm2 : K.length ≤ 9223372036854775807 := by unfold maxLen at k2; omega
  clear h1 h2 h3 h4 k1 k2 k3 k4
  by_cases hlen : L.length = K.length
  · have HE := h_ hlen
    rw [← hlen]
    have g0 : ((L.length : Int) != (L.length : Int)) = false := by simp
    clear hlen hm2
    obtain ⟨R, hR⟩ : ∃ R, sameIL L K = R := ⟨_, rfl⟩
    rw [hR]
    have HR := h_ hR
    clear hR
    go_enter Tryz.func43, Tryz.ntmps43
    go_wp2
    go_loopw [17] (fun i wr => ∃ k : Nat, k ≤ L.length ∧ i = .int .i64 k ∧ Hid (L.take k = K.take k) ∧ Below w.heap.size w wr) (fun i _ => L.length - (intOf i).toNat)
    case atStart => exact ⟨0, Nat.zero_le _, rfl, h_ rfl, Below.refl _ _⟩
    case round =>
      obtain ⟨j, hk, rfl, HT, hb⟩ := hrel
      by_cases hlt : j < L.length
      · have hlt2 : j < K.length := by have := HE.out; omega
        obtain ⟨⟨k1, t1, ⟨a1, b1⟩, ⟨c1, d1⟩, M1⟩, hz1⟩ : ∃ z, L[j]? = some z := ⟨_, List.getElem?_eq_getElem hlt⟩
        obtain ⟨bq1, off1, u1, rfl, X0, X1, X2, X3, X4, X5, X6, M1A⟩ := HL.out j _ hz1
        have X0 := cell_later hb X0
        have X1 := cell_later hb X1
        have X2 := cell_later hb X2
        have X3 := cell_later hb X3
        have X4 := cell_later hb X4
        have X5 := cell_later hb X5
        have X6 := cell_later hb X6
        obtain ⟨su1, cu1, eu1, -⟩ := id M1A
        subst eu1
        obtain ⟨⟨k2, t2, ⟨a2, b2⟩, ⟨c2, d2⟩, M2⟩, hz2⟩ : ∃ z, K[j]? = some z := ⟨_, List.getElem?_eq_getElem hlt2⟩
        obtain ⟨bq2, off2, u2, rfl, Y0, Y1, Y2, Y3, Y4, Y5, Y6, M2A⟩ := HK.out j _ hz2
        have Y0 := cell_later hb Y0
        have Y1 := cell_later hb Y1
        have Y2 := cell_later hb Y2
        have Y3 := cell_later hb Y3
        have Y4 := cell_later hb Y4
        have Y5 := cell_later hb Y5
        have Y6 := cell_later hb Y6
        obtain ⟨su2, cu2, eu2, -⟩ := id M2A
        subst eu2
        have Z0 := cell_later (below1 wr (.cells #[.int .i64 k1, .int .i64 t1, .int .u64 (a1 : Int), .int .u64 (b1 : Int), .int .u64 (c1 : Int), .int .u64 (d1 : Int), (.slice su1 M1.length cu1)] 34)) Y0
        have Z1 := cell_later (below1 wr (.cells #[.int .i64 k1, .int .i64 t1, .int .u64 (a1 : Int), .int .u64 (b1 : Int), .int .u64 (c1 : Int), .int .u64 (d1 : Int), (.slice su1 M1.length cu1)] 34)) Y1
        have Z2 := cell_later (below1 wr (.cells #[.int .i64 k1, .int .i64 t1, .int .u64 (a1 : Int), .int .u64 (b1 : Int), .int .u64 (c1 : Int), .int .u64 (d1 : Int), (.slice su1 M1.length cu1)] 34)) Y2
        have Z3 := cell_later (below1 wr (.cells #[.int .i64 k1, .int .i64 t1, .int .u64 (a1 : Int), .int .u64 (b1 : Int), .int .u64 (c1 : Int), .int .u64 (d1 : Int), (.slice su1 M1.length cu1)] 34)) Y3
        have Z4 := cell_later (below1 wr (.cells #[.int .i64 k1, .int .i64 t1, .int .u64 (a1 : Int), .int .u64 (b1 : Int), .int .u64 (c1 : Int), .int .u64 (d1 : Int), (.slice su1 M1.length cu1)] 34)) Y4
        have Z5 := cell_later (below1 wr (.cells #[.int .i64 k1, .int .i64 t1, .int .u64 (a1 : Int), .int .u64 (b1 : Int), .int .u64 (c1 : Int), .int .u64 (d1 : Int), (.slice su1 M1.length cu1)] 34)) Y5
        have Z6 := cell_later (below1 wr (.cells #[.int .i64 k1, .int .i64 t1, .int .u64 (a1 : Int), .int .u64 (b1 : Int), .int .u64 (c1 : Int), .int .u64 (d1 : Int), (.slice su1 M1.length cu1)] 34)) Y6
        have HX := h_ hz1
        have HY := h_ hz2
        have M1H := h_ (M1A.later hb)
        have M2H := h_ (M2A.later hb)
        clear hz1 hz2 hlt2 M1A M2A
        have hlt' : (j : Int) < (L.length : Int) := by omega
        have BB := h_ (below2 wr (.cells #[.int .i64 k1, .int .i64 t1, .int .u64 (a1 : Int), .int .u64 (b1 : Int), .int .u64 (c1 : Int), .int .u64 (d1 : Int), (.slice su1 M1.length cu1)] 34) (.cells #[.int .i64 k2, .int .i64 t2, .int .u64 (a2 : Int), .int .u64 (b2 : Int), .int .u64 (c2 : Int), .int .u64 (d2 : Int), (.slice su2 M2.length cu2)] 34))
        have A1 := h_ ((AB.at0 wr 34 [.int .i64 k1, .int .i64 t1, .int .u64 (a1 : Int), .int .u64 (b1 : Int), .int .u64 (c1 : Int), .int .u64 (d1 : Int), (.slice su1 M1.length cu1)]).alloc (.cells #[.int .i64 k2, .int .i64 t2, .int .u64 (a2 : Int), .int .u64 (b2 : Int), .int .u64 (c2 : Int), .int .u64 (d2 : Int), (.slice su2 M2.length cu2)] 34))
        have A2 := h_ (AB.at1 wr (.cells #[.int .i64 k1, .int .i64 t1, .int .u64 (a1 : Int), .int .u64 (b1 : Int), .int .u64 (c1 : Int), .int .u64 (d1 : Int), (.slice su1 M1.length cu1)] 34) 34 [.int .i64 k2, .int .i64 t2, .int .u64 (a2 : Int), .int .u64 (b2 : Int), .int .u64 (c2 : Int), .int .u64 (d2 : Int), (.slice su2 M2.length cu2)])
        have qs := fun W (hW : Below wr.heap.size wr W) => isame_any k1 t1 a1 b1 c1 d1 _ M1 k2 t2 a2 b2 c2 d2 _ M2 W (M1H.out.later hW) (M2H.out.later hW)
        have qs := h_ qs
        cases hd : sameI (k1, t1, (a1, b1), (c1, d1), M1) (k2, t2, (a2, b2), (c2, d2), M2)
        · rw [hd] at qs
          have HD := h_ (sameI_no hd)
          clear hd
          go_wp2_with (go_at_call 44; refine (qs.out _ BB.out).mono ?_; rintro e w5 ⟨rfl, b5⟩; have b6 := BB.out.trans (b5.mono BB.out.size))
          go_ret
          refine ⟨?_, hb.trans (b6.mono hb.size)⟩
          rw [← HR.out, sameIL_false (take_diffI HX.out HY.out HD.out)]
          rfl
        · rw [hd] at qs
          have HD := h_ ((sameI_iff _ _).1 hd)
          clear hd
          go_wp2_with (go_at_call 44; refine (qs.out _ BB.out).mono ?_; rintro e w5 ⟨rfl, b5⟩; have b6 := BB.out.trans (b5.mono BB.out.size))
          go_roundw
          case rel => exact ⟨j + 1, by omega, by go_num, h_ (take_sameI HT.out HX.out HY.out HD.out), hb.trans (b6.mono hb.size)⟩
          case measure => simp [intOf]; omega
      · have hlt' : ¬ (j : Int) < (L.length : Int) := by omega
        go_wp2
        go_ret
        refine ⟨?_, hb⟩
        have e := HT.out
        rw [List.take_of_length_le (by omega), List.take_of_length_le (by have := HE.out; omega)] at e
        rw [← HR.out, sameIL_true e]
        rfl
  · have g0 : ((L.length : Int) != (K.length : Int)) = true := by simp; omega
    have g1 : ((L.length : Int) == (K.length : Int)) = false := by simp; omega
    have e : ¬ L = K := fun h => hlen (by rw [h])
    rw [sameIL_false e]
    go_enter Tryz.func43, Tryz.ntmps43
    go_wp2
    go_ret
    exact ⟨rfl, Below.refl _ _⟩
theorem ilsame_any (v u : Value) (L K : List I6) (w : World) (hL : InstAt w v L) (hK : InstAt w u K) :
    Calls Tryz.prog 16 #[v, u] w fun e w' => e = .returned (.bool (sameIL L K)) ∧ Below w.heap.size w w' := by
  have q := h_ (ieqf_any v u L K w hL hK)
  generalize sameIL L K = z at *
  clear hL hK
  go_enter Tryz.func16, Tryz.ntmps16
  go_wp2_with (go_at_call 43; refine q.out.mono ?_; rintro e w1 ⟨rfl, b1⟩)
  go_ret
  exact ⟨rfl, b1⟩
end Go.Proofs.YthhijfphfcmniaaGreat
namespace Go.Proofs.YthhijfphfcmniaaGreat
open Go Go.RowKit Go.Maps
def bodyI (o : I6) : List Int := if o.1 = 2 then spl o.2.1 1 ++ [0, 0, 0] ++ wtail o.2.2.1.1 o.2.2.1.2 8 ++ wtail o.2.2.2.1.1 o.2.2.2.1.2 8 else if o.1 = 3 ∨ o.1 = 4 then spl o.2.1 1 ++ [0, 0, 0] ++ encA o.2.2.2.2 else spl o.2.1 1 ++ [0, 0, 0]
def instE (o : I6) : List Int := spl o.1 2 ++ spl (4 + ((bodyI o).length : Int)) 2 ++ bodyI o
def encIs (L : List I6) : List Int := L.flatMap instE
def gI (L : List I6) (j : Nat) : Prop := ∀ i o, i < j → L[i]? = some o → iR o = true ∧ o.1 ∉ (L.take i).map (·.1)
theorem encIs_take {L : List I6} {j : Nat} {o : I6} (h : L[j]? = some o) : encIs (L.take (j + 1)) = encIs (L.take j) ++ instE o := by
  rw [List.take_add_one, h]
  simp [encIs]
theorem iR_parts {o : I6} (h : iR o = true) : o = ownI o ∧ chkI o = true ∧ mskI o = true ∧ o.2.2.2.2.length ≤ 100 ∧ o.2.2.2.2.all artO = true := by
  unfold iR aOk at h
  simp only [Bool.and_eq_true, decide_eq_true_eq] at h
  exact ⟨(sameI_iff _ _).1 h.1, h.2.1, h.2.2.1, h.2.2.2.1, h.2.2.2.2⟩
theorem chkI_parts {o : I6} (h : chkI o = true) : (1 ≤ o.1 ∧ o.1 ≤ 5) ∧ (o.1 = 1 → 0 ≤ o.2.1 ∧ o.2.1 < 255) ∧ (o.1 = 2 → wi o.2.2.1.1 o.2.2.1.2 o.2.2.2.1.1 o.2.2.2.1.2 = true) := by
  unfold chkI isK at h
  simp only [Bool.and_eq_true, Bool.or_eq_true, decide_eq_true_eq, Bool.not_eq_true', decide_eq_false_iff_not] at h
  refine ⟨h.1, fun e => ?_, fun e => ?_⟩
  · rcases h.2.1 with h1 | h1
    · exact absurd e h1
    · exact h1
  · rcases h.2.2 with h1 | h1
    · exact absurd e h1
    · exact h1
theorem iR_table {o : I6} (h : iR o = true) : 0 ≤ o.2.1 ∧ o.2.1 < 255 := by
  obtain ⟨h1, h2, -⟩ := iR_parts h
  obtain ⟨h3, h4, -⟩ := chkI_parts h2
  by_cases e : o.1 = 1
  · exact h4 e
  · have h5 : o.2.1 = 0 := by
      have h6 : o.2.1 = (ownI o).2.1 := congrArg (fun x : I6 => x.2.1) h1
      rw [h6]
      unfold ownI
      rw [if_neg e]
      split
      · rfl
      · split <;> rfl
    omega
theorem isB_encA : ∀ L : List A11, AFit L → L.all artO = true → isB (encA L)
  | [], _, _ => fun z hz => by simp [encA] at hz
  | (k, p, x, q, y, f, m, a, b, c, d) :: r, hF, h => by
    rw [List.all_cons, Bool.and_eq_true] at h
    obtain ⟨ha, hb, hc, hd⟩ := hF k p x q y f m a b c d (by simp)
    show isB (aencO (k, p, x, q, y, f, m, a, b, c, d) ++ encA r)
    exact (aencL_isB ha hb hc hd h.1).app (isB_encA r (fun _ _ _ _ _ _ _ _ _ _ _ hm => hF _ _ _ _ _ _ _ _ _ _ _ (List.mem_cons_of_mem _ hm)) h.2)
theorem isB_000 : isB [0, 0, 0] := by intro z hz; simp at hz; omega
theorem bodyI_ok {o : I6} (hI : IFit o) (h : iR o = true) : isB (bodyI o) ∧ (bodyI o).length ≤ 6040 := by
  obtain ⟨ha, hb, hc, hd, hF⟩ := hI
  obtain ⟨-, -, -, h1, h2⟩ := iR_parts h
  have ht := iR_table h
  have hs : isB (spl o.2.1 1 ++ [0, 0, 0]) := (isB_spl1 _).app isB_000
  have hsl : (spl o.2.1 1 ++ [0, 0, 0]).length = 4 := by simp [spl_len1]
  unfold bodyI
  split
  · refine ⟨((hs).app (isB_wtail _ _ 8 ha hb)).app (isB_wtail _ _ 8 hc hd), ?_⟩
    rw [List.length_append, List.length_append, hsl, wtail_length, wtail_length]
    have := cl_le 8 16
    omega
  · split
    · refine ⟨hs.app (isB_encA _ hF h2), ?_⟩
      have := encA_6000 hF h1 h2
      rw [List.length_append, hsl]; omega
    · exact ⟨hs, by rw [hsl]; omega⟩
theorem instE_ok {o : I6} (hI : IFit o) (h : iR o = true) : (instE o).length ≤ 6100 := by
  have := (bodyI_ok hI h).2
  unfold instE
  rw [List.length_append, List.length_append, spl_len2, spl_len2]; omega
theorem pig : ∀ (n : Nat) (ks : List Int), ks.Nodup → (∀ k ∈ ks, 1 ≤ k ∧ k ≤ (n : Int)) → ks.length ≤ n
  | 0, [], _, _ => Nat.le_refl _
  | 0, k :: r, _, h => by have := h k (by simp); omega
  | n + 1, ks, hd, h => by
    by_cases hm : ((n : Int) + 1) ∈ ks
    · have h1 := List.length_erase_of_mem hm
      have h2 := pig n (ks.erase ((n : Int) + 1)) (hd.erase _) (fun k hk => by
        have h3 := (List.Nodup.mem_erase_iff hd).1 hk
        have h4 := h k h3.2
        have h5 := h3.1
        omega)
      omega
    · have h2 := pig n ks hd (fun k hk => by
        have h4 := h k hk
        have : k ≠ (n : Int) + 1 := fun e => hm (e ▸ hk)
        omega)
      omega
theorem gI_nodup {L : List I6} : ∀ j, gI L j → ((L.take j).map (·.1)).Nodup
  | 0, _ => by simp
  | j + 1, h => by
    have ih := gI_nodup j (fun i o hi ho => h i o (by omega) ho)
    cases e : L[j]? with
    | none =>
      rw [List.take_add_one, e]
      simpa using ih
    | some o =>
      rw [List.take_add_one, e]
      simp only [Option.toList_some, List.map_append, List.map_cons, List.map_nil]
      rw [List.nodup_append]
      refine ⟨ih, by simp, ?_⟩
      intro a ha b hb
      simp only [List.mem_singleton] at hb
      subst hb
      exact fun e2 => (h j o (by omega) e).2 (e2 ▸ ha)
theorem gI_5 {L : List I6} {j : Nat} (h : gI L j) (hj : j ≤ L.length) : j ≤ 5 := by
  have h1 := pig 5 _ (gI_nodup j h) (fun k hk => by
    obtain ⟨o, ho, rfl⟩ := List.mem_map.1 hk
    obtain ⟨i, hi, e⟩ := List.mem_take_iff_getElem.1 ho
    have h2 := (h i o (by omega) (by rw [List.getElem?_eq_getElem (by omega), e])).1
    have h3 := (chkI_parts (iR_parts h2).2.1).1
    exact ⟨h3.1, by have := h3.2; omega⟩)
  rw [List.length_map, List.length_take] at h1
  omega
theorem encIs_len {L : List I6} (hF : LFit L) : ∀ j, gI L j → (encIs (L.take j)).length ≤ j * 6100
  | 0, _ => by simp [encIs]
  | j + 1, h => by
    have ih := encIs_len hF j (fun i o hi ho => h i o (by omega) ho)
    cases e : L[j]? with
    | none => rw [List.take_add_one, e]; simp only [Option.toList_none, List.append_nil]; exact Nat.le_trans ih (Nat.mul_le_mul_right _ (Nat.le_succ j))
    | some o =>
      have h2 := instE_ok (hF o (List.mem_of_getElem? e)).1 (h j o (by omega) e).1
      rw [encIs_take e, List.length_append]
      omega
def Sd (L : List I6) (j : Nat) : DataW Unit := setOf (.agg []) (((L.take j).map (·.1)).map (Lit.int .i64))
theorem any_intI (x : Int) : ∀ l : List Int, l.any ((fun y : Lit => y.sameKey (.int .i64 x)) ∘ Lit.int .i64) = l.contains x
  | [] => rfl
  | a :: r => by
    rw [List.any_cons, List.contains_cons, any_intI x r]
    congr 1
    show decide (IntKind.i64 = IntKind.i64 ∧ a = x) = (x == a)
    by_cases e : a = x
    · subst e
      simp
    · have e' : ¬ x = a := fun h => e h.symm
      simp [e, e']
theorem has_set (ks : List Int) (x : Int) : Maps.has (setOf (H := Unit) (.agg []) (ks.map (Lit.int .i64))) (.int .i64 x) = ks.contains x := by
  rw [has_setOf _ _ _ (fun y hy => by obtain ⟨_, _, rfl⟩ := List.mem_map.1 hy; trivial), List.any_map]
  exact any_intI x _
theorem Sd_succ {L : List I6} {j : Nat} {o : I6} (h : L[j]? = some o) : Sd L (j + 1) = (Sd L j).put (.int .i64 o.1) (.agg []) := by
  unfold Sd
  rw [List.take_add_one, h]
  simp only [Option.toList_some, List.map_append, List.map_cons, List.map_nil]
  rw [setOf_snoc]
theorem ownsMap_later {H : Type} {w w' : World} {P : Program} {k : TypeId} {R : Value → Option (DataW H × List MemPlace)} {b n : Nat} {D : DataW H} (h : w.ownsMap P k R b n D) (hb : Below w.heap.size w w') : w'.ownsMap P k R b n D := by
  have hlt := h.lt
  obtain ⟨es, clock, e, r⟩ := h
  exact ⟨es, clock, by rw [hb.block _ hlt]; exact e, r⟩
theorem AB.grownO {w w' : World} {g : Nat} {ty : TypeId} {cs : List Value} {row : Option Nat} (h : AB w g ty cs) (hg : w.grownBy w' row) (hne : some g ≠ row) : AB w' g ty cs := by
  have := hg.block g h.lt hne
  unfold AB at *
  rw [this]; exact h
theorem ispell_all (k t : Int) (a b c d : Nat) (u : Value) (L : List A11) (w : World) (hL : ActAt w u L) (hI : IFit (k, t, (a, b), (c, d), L)) (h : iR (k, t, (a, b), (c, d), L) = true) :
    Calls Tryz.prog 35 #[.agg #[.int .i64 k, .int .i64 t, .int .u64 (a : Int), .int .u64 (b : Int), .int .u64 (c : Int), .int .u64 (d : Int), u]] w fun e w' => ∃ r, e = .returned r ∧ OwnB w' w.heap.size r (instE (k, t, (a, b), (c, d), L)) ∧ Below w.heap.size w w' := by
  obtain ⟨hB, hl⟩ := bodyI_ok hI h
  have ht := iR_table h
  obtain ⟨-, hch, -, h1, h2⟩ := iR_parts h
  obtain ⟨hk, -, -⟩ := chkI_parts hch
  obtain ⟨ha, hb, hc, hd, hF⟩ := hI
  dsimp only at ht hk h1 h2
  have rk : rightB k 2 = true := by simp [rightB, szB, lim]; omega
  have rt : rightB t 1 = true := by simp [rightB, szB, lim]; omega
  refine ispell_any k t a b c d u _ w rk hB (by omega) (fun W hW => ?_)
  have hAl : (encA L).length ≤ 100000 := Nat.le_trans (encA_6000 (L := L) hF h1 h2) (by decide)
  have hk5 : k = 1 ∨ k = 2 ∨ k = 3 ∨ k = 4 ∨ k = 5 := by omega
  have hE : ∀ W', Below W.heap.size W W' → Calls Tryz.prog 49 #[u] W' fun e w' => ∃ r, e = .returned (.tuple #[r, .int .i64 0]) ∧ Bytes w' r (encA L) ∧ Below W'.heap.size W' w' := fun W' hW' => (le_all (B := encA L) (er := 0) ((hL.later hW).later hW') hF (.inl ⟨h1, h2, rfl, rfl⟩)).mono (by
    rintro e w' ⟨r, rfl, ho, hb⟩
    exact ⟨r, rfl, ho.bytes, hb⟩)
  rcases hk5 with rfl | rfl | rfl | rfl | rfl
  · exact (spb_1 t a b c d u W rt).mono (by rintro e w' ⟨r, rfl, ho, hb⟩; exact ⟨r, rfl, ho.bytes, hb⟩)
  · exact spb_2 t a b c d u W rt ha hb hc hd
  · exact (spb_3 t a b c d u (encA L) W rt (isB_encA L hF h2) hAl hE).mono (by rintro e w' ⟨r, rfl, ho, hb⟩; exact ⟨r, rfl, ho.bytes, hb⟩)
  · exact (spb_4 t a b c d u (encA L) W rt (isB_encA L hF h2) hAl hE).mono (by rintro e w' ⟨r, rfl, ho, hb⟩; exact ⟨r, rfl, ho.bytes, hb⟩)
  · exact (spb_5 t a b c d u W rt).mono (by rintro e w' ⟨r, rfl, ho, hb⟩; exact ⟨r, rfl, ho.bytes, hb⟩)
end Go.Proofs.YthhijfphfcmniaaGreat
namespace Go.Proofs.YthhijfphfcmniaaGreat
open Go Go.RowKit Go.Maps
theorem lawI : Keyed Tryz.prog 3 := int_keyed Tryz.underlying3
theorem zeroU (w : World) : (zeroValue 63).run Tryz.prog w = .ok (.agg #[]) w := by kernel_rfl
theorem gI_succ {L : List I6} {j : Nat} {o : I6} (h : gI L j) (ho : L[j]? = some o) (hr : iR o = true) (hn : o.1 ∉ (L.take j).map (·.1)) : gI L (j + 1) := fun i x hi hx => by
  by_cases e : i < j
  · exact h i x e hx
  · have : i = j := by omega
    subst this
    rw [ho] at hx
    cases hx
    exact ⟨hr, hn⟩
theorem ie_yes (v : Value) (L : List I6) (w : World) (hL : InstAt w v L) (hF : LFit L) (hg : gI L L.length) :
    Calls Tryz.prog 9 #[v] w fun e w' => (∃ r, e = .returned (.tuple #[r, .int .i64 0]) ∧ OwnB w' w.heap.size r (encIs L)) ∧ Below w.heap.size w w' := by
  obtain ⟨s, cap, rfl, h1, h2, h3, h4⟩ := hL
  have HL := h_ h4
  have HF := h_ hF
  have HG := h_ hg
  have hm : L.length ≤ 9223372036854775807 := by unfold maxLen at h2; omega
  have hmm := @run_makeMap Tryz.prog
  obtain ⟨i0, hi0, hz0, hz1, hz2⟩ := info_parts info5
  have HI : Hid (Tryz.prog.info? 5 = some i0 ∧ i0.zero = some (.int .u8 0) ∧ i0.size = 1 ∧ i0.bytes = 1) := ⟨hi0, hz0, hz1, hz2⟩
  clear hi0 hz0 hz1 hz2 h1 h2 h3 h4 hF hg
  go_enter Tryz.func9, Tryz.ntmps9
  go_wp2
  go_loopw [4, 13] (fun b i wr => ∃ (j : Nat) (sb : Option Addr) (nb cb : Nat) (EJ : List Int), j ≤ L.length ∧ i = .int .i64 (j : Int) ∧ b = .slice sb nb cb ∧ Hid (EJ = encIs (L.take j)) ∧ Hid (EJ.length = nb) ∧ Hid (OwnB wr (w.heap.size + 1) (.slice sb nb cb) EJ) ∧ Hid (gI L j) ∧ Hid (wr.ownsMap Tryz.prog 3 unitElem w.heap.size j (Sd L j)) ∧ Hid (Below w.heap.size w wr) ∧ Hid (w.heap.size + 1 ≤ wr.heap.size)) (fun _ i _ => L.length - (intOf i).toNat)
  case atStart => exact ⟨0, none, 0, 0, [], Nat.zero_le _, rfl, rfl, h_ rfl, h_ rfl, h_ (own_nilB _ _), h_ (fun i o hi => by omega), h_ (World.ownsMap_made _ _ _ _), h_ ((Below.refl _ _).alloc (Nat.le_refl _) _), h_ (by simp)⟩
  case round =>
    obtain ⟨j, sb, nb, cb, EJ, hj, rfl, rfl, HE, HNB, HOw, HA, HMp, KB, HS⟩ := hrel
    by_cases hlt : j < L.length
    · have hlt' : (j : Int) < (L.length : Int) := by omega
      have H5 := h_ (gI_5 HA.out hj)
      obtain ⟨⟨k1, t1, ⟨a1, b1⟩, ⟨c1, d1⟩, M1⟩, hz1⟩ : ∃ z, L[j]? = some z := ⟨_, List.getElem?_eq_getElem hlt⟩
      obtain ⟨bq1, off1, u1, rfl, X0, X1, X2, X3, X4, X5, X6, M1A⟩ := HL.out j _ hz1
      have X0 := cell_later KB.out X0
      have X1 := cell_later KB.out X1
      have X2 := cell_later KB.out X2
      have X3 := cell_later KB.out X3
      have X4 := cell_later KB.out X4
      have X5 := cell_later KB.out X5
      have X6 := cell_later KB.out X6
      obtain ⟨su1, cu1, eu1, -⟩ := id M1A
      subst eu1
      have HX := h_ hz1
      have M1H := h_ M1A
      have hF1 := h_ (HF.out _ (List.mem_of_getElem? hz1))
      have BB := h_ (below2 wr (.cells #[.int .i64 k1, .int .i64 t1, .int .u64 (a1 : Int), .int .u64 (b1 : Int), .int .u64 (c1 : Int), .int .u64 (d1 : Int), (.slice su1 M1.length cu1)] 34) (.cells #[] 63))
      have A2 := h_ ((AB.at0 wr 34 [.int .i64 k1, .int .i64 t1, .int .u64 (a1 : Int), .int .u64 (b1 : Int), .int .u64 (c1 : Int), .int .u64 (d1 : Int), (.slice su1 M1.length cu1)]).alloc (.cells #[] 63))
      obtain ⟨z0, z1, z2, z3, z4, z5, z6, -⟩ := A2.out.k7
      obtain ⟨y0, y1, y2, y3, y4, y5, y6, -⟩ := (AB.at0 wr 34 [.int .i64 k1, .int .i64 t1, .int .u64 (a1 : Int), .int .u64 (b1 : Int), .int .u64 (c1 : Int), .int .u64 (d1 : Int), (.slice su1 M1.length cu1)]).k7
      have M2 := h_ ((HMp.out.alloc (.cells #[.int .i64 k1, .int .i64 t1, .int .u64 (a1 : Int), .int .u64 (b1 : Int), .int .u64 (c1 : Int), .int .u64 (d1 : Int), (.slice su1 M1.length cu1)] 34)).alloc (.cells #[] 63))
      have HWS := h_ (show w.heap.size < wr.heap.size from HS.out)
      have HK : Hid (keyOf Tryz.prog 3 (.int .i64 k1) = some (.int .i64 k1)) := h_ (keyOf_int_mk Tryz.underlying3 hF1.out.2)
      clear hz1 M1A
      cases hh : ((L.take j).map (·.1)).contains k1
      · skip
        have HH : Hid (Maps.has (Sd L j) (.int .i64 k1) = false) := h_ (by unfold Sd; rw [has_set, hh])
        have HN := h_ (show k1 ∉ (L.take j).map (·.1) from fun hmem => by rw [List.contains_iff_mem.2 hmem] at hh; cases hh)
        clear hh
        cases ho : iR (k1, t1, (a1, b1), (c1, d1), M1)
        · skip
          exfalso
          have := (HG.out j _ hlt HX.out).1
          rw [ho] at this
          cases this
        · have qr := h_ (fun W (hW : Below wr.heap.size wr W) => by have := iright_any k1 t1 a1 b1 c1 d1 _ M1 W ((M1H.out.later KB.out).later hW) hF1.out.1; rw [ho] at this; exact this)
          have qs := h_ (fun W (hW : Below w.heap.size w W) => ispell_all k1 t1 a1 b1 c1 d1 _ M1 W (M1H.out.later hW) hF1.out.1 ho)
          have HN6 : Hid (nb + (instE (k1, t1, (a1, b1), (c1, d1), M1)).length ≤ 1000000) := h_ (by
            have h1 := instE_ok hF1.out.1 ho
            have h2 := encIs_len HF.out j HA.out
            rw [← HE.out, HNB.out] at h2
            have := H5.out
            omega)
          have HG1 := h_ (gI_succ HA.out HX.out ho HN.out)
          have HS1 := h_ (Sd_succ HX.out)
          clear ho
          have HE8 := h_ (encIs_take HX.out)
          obtain ⟨E1, hE1⟩ : ∃ E1, instE (k1, t1, (a1, b1), (c1, d1), M1) = E1 := ⟨_, rfl⟩
          rw [hE1] at qs HN6 HE8
          obtain ⟨n5, hn5⟩ : ∃ n5, E1.length = n5 := ⟨_, rfl⟩
          have HN5 := h_ hn5
          clear hE1 hn5
          go_wp2_with (first | (at_lookup; refine wpList_lookup_own_unit _ rfl _ _ 62 rfl 3 63 lawI Tryz.underlying62 (zeroU _) w.heap.size j (Sd L j) rfl (HMp.out.alloc (.cells #[.int .i64 k1, .int .i64 t1, .int .u64 (a1 : Int), .int .u64 (b1 : Int), .int .u64 (c1 : Int), .int .u64 (d1 : Int), (.slice su1 M1.length cu1)] 34)) _ _ rfl HK.out ?_; rw [HH.out]) | (go_at_call 19; refine (qr.out _ BB.out).mono ?_; rintro e w4 ⟨rfl, b4⟩; have A4 := h_ (A2.out.later b4); have M4 := h_ (ownsMap_later M2.out b4); have O4 := h_ ((HOw.out.later BB.out).later b4); have k4 := h_ (KB.out.trans ((BB.out.trans (b4.mono BB.out.size)).mono KB.out.size)); have s4 := h_ (Nat.le_trans HS.out (Nat.le_trans BB.out.size b4.size)); obtain ⟨p0, p1, p2, p3, p4, p5, p6, -⟩ := A4.out.k7; clear b4) | (at_mapUpdate; refine wpList_mapUpdate_own _ rfl _ _ _ 62 rfl 3 63 lawI Tryz.underlying62 (unitElem (H := Unit)) w.heap.size j (Sd L j) rfl M4.out (by have := H5.out; unfold maxLen; omega) _ _ _ rfl rfl HK.out _ [] unitElem_mk ?_; intro w5 hown5 hgrow5; have M5 := h_ hown5; have A5 := h_ (A4.out.grownO hgrow5 (by have := HWS.out; intro e; injection e with e; omega)); have O5 : Hid (OwnB w5 (w.heap.size + 1) (.slice sb nb cb) EJ) := h_ ⟨O4.out.1.kept hgrow5 (.inr (fun e => by have := (O4.out.1.lt _ e).1; omega)), O4.out.2⟩; have k5 := h_ (k4.out.grown hgrow5 (Nat.le_trans (Nat.le_succ _) s4.out) (fun k e => by cases e; exact Nat.le_refl _)); have s5 := h_ (Nat.le_trans s4.out hgrow5.size); obtain ⟨q0, q1, q2, q3, q4, q5, q6, -⟩ := A5.out.k7; clear hown5 hgrow5) | (go_at_call 35; refine (qs.out _ k5.out).mono ?_; rintro e w6 ⟨r6, rfl, o6, b6⟩; obtain ⟨s6', c6, e6⟩ := own_sliceB o6; subst e6; rw [HN5.out] at o6 ⊢; have O6 := h_ o6; have P6 := h_ (O5.out.later b6); have M6 := h_ (ownsMap_later M5.out b6); have k6 := h_ (k5.out.trans (b6.mono k5.out.size)); have s6s := h_ (Nat.le_trans s5.out b6.size); clear o6 b6) | (at_builtin; refine wpList_append_ownB rfl (.tmp 34) (.tmp 36) 25 rfl (w.heap.size + 1) 5 i0 Tryz.underlying25 HI.out.1 HI.out.2.1 HI.out.2.2.1 HI.out.2.2.2 (.slice sb nb cb) nb (u8s EJ) (by simp [Act.eval, Act.put]) (by have := P6.out.1; rw [HNB.out] at this; exact this) (.slice s6' n5 c6) E1 (by simp [Act.eval, Act.put]) O6.out.bytes (by have := HN6.out; omega) s6s.out ?_; intro v7 w7 own7 hg7; have own7 : w7.ownsRow (w.heap.size + 1) 5 1 v7 (EJ.length + E1.length) (u8s EJ ++ u8s E1) := (by rw [HNB.out]; exact own7); have O7 := h_ (P6.out.grow O6.out.2 own7); have k7 := h_ (k6.out.trans (below_grown hg7 w.heap.size (Nat.le_trans (Nat.le_succ _) s6s.out) (fun k e => Nat.le_trans (Nat.le_succ _) (P6.out.1.lt _ e).1))); have M7 := h_ (M6.out.kept hg7 (fun e => by have := (P6.out.1.lt _ e.symm).1; omega)); have s7 := h_ (Nat.le_trans s6s.out hg7.size); clear own7 hg7))
          obtain ⟨s8, c8, hv8⟩ := own_sliceB O7.out
          subst hv8
          obtain ⟨n8, hn8⟩ : ∃ n8, (EJ ++ E1).length = n8 := ⟨_, rfl⟩
          rw [hn8] at O7 ⊢
          have HN8 := h_ hn8
          clear hn8
          try go_wp2
          go_roundw
          case rel => exact ⟨j + 1, s8, n8, c8, EJ ++ E1, by omega, by go_num, rfl, h_ (by rw [HE8.out, HE.out]), HN8, O7, HG1, h_ (by rw [HS1.out]; exact M7.out), k7, s7⟩
          case measure => simp [intOf]; omega
      · exfalso
        exact (HG.out j _ hlt HX.out).2 (List.contains_iff_mem.1 hh)
    · have hlt' : ¬ (j : Int) < (L.length : Int) := by omega
      have e : EJ = encIs L := by rw [HE.out, List.take_of_length_le (by omega)]
      have g6 : ¬ (60000 : Int) < (nb : Int) := by
        have h2 := encIs_len HF.out j HA.out
        rw [← HE.out, HNB.out] at h2
        have := gI_5 HA.out hj
        omega
      have HEE := h_ e
      clear e
      go_wp2
      go_ret2
      refine ⟨⟨_, by first | rfl | simp, ?_⟩, KB.out⟩
      rw [← HEE.out]
      exact HOw.out.mono (Nat.le_succ _)
end Go.Proofs.YthhijfphfcmniaaGreat
namespace Go.Proofs.YthhijfphfcmniaaGreat
open Go Go.RowKit Go.Maps
end Go.Proofs.YthhijfphfcmniaaGreat
namespace Go.Proofs.YthhijfphfcmniaaGreat
open Go Go.RowKit
def HOk (l : List Int) (k : Int) (N : Nat) : Prop := be2 l 0 = k ∧ be2 l 2 = (N : Int) ∧ 8 ≤ l.length ∧ (8 ≤ N ∧ N % 8 = 0 ∧ N ≤ l.length) ∧ ¬ k = 6 ∧ isK k = true ∧ fitK k (N : Int) = true ∧ nouI k l = true
def HNo (l : List Int) (c : Int) : Prop := 0 < l.length ∧ ∃ (k : Int) (N : Nat), be2 l 0 = k ∧ be2 l 2 = (N : Int) ∧ ((c = 7 ∧ (l.length < 8 ∨ (8 ≤ l.length ∧ (N < 8 ∨ (8 ≤ N ∧ (¬ N % 8 = 0 ∨ (N % 8 = 0 ∧ l.length < N))))))) ∨ (8 ≤ l.length ∧ (8 ≤ N ∧ N % 8 = 0 ∧ N ≤ l.length) ∧ ((k = 6 ∧ c = 1) ∨ (¬ k = 6 ∧ ((isK k = false ∧ c = 0) ∨ (isK k = true ∧ c = 7 ∧ (fitK k (N : Int) = false ∨ (fitK k (N : Int) = true ∧ nouI k l = false))))))))
theorem head_all (l : List Int) (hl : isB l) (h0 : 0 < l.length) : (∃ k N, HOk l k N) ∨ ∃ c, HNo l c := by
  have h2 := be2_range hl 2
  obtain ⟨N, hN⟩ : ∃ N : Nat, be2 l 2 = (N : Int) := ⟨(be2 l 2).toNat, by omega⟩
  obtain ⟨k, hk⟩ : ∃ k, be2 l 0 = k := ⟨_, rfl⟩
  by_cases g : 8 ≤ l.length ∧ 8 ≤ N ∧ N % 8 = 0 ∧ N ≤ l.length
  · obtain ⟨g1, g2⟩ := g
    by_cases h6 : k = 6
    · exact .inr ⟨1, h0, k, N, hk, hN, .inr ⟨g1, g2, .inl ⟨h6, rfl⟩⟩⟩
    · cases hi : isK k
      · exact .inr ⟨0, h0, k, N, hk, hN, .inr ⟨g1, g2, .inr ⟨h6, .inl ⟨hi, rfl⟩⟩⟩⟩
      · cases hf : fitK k (N : Int)
        · exact .inr ⟨7, h0, k, N, hk, hN, .inr ⟨g1, g2, .inr ⟨h6, .inr ⟨hi, rfl, .inl hf⟩⟩⟩⟩
        · cases hn : nouI k l
          · exact .inr ⟨7, h0, k, N, hk, hN, .inr ⟨g1, g2, .inr ⟨h6, .inr ⟨hi, rfl, .inr ⟨hf, hn⟩⟩⟩⟩⟩
          · exact .inl ⟨k, N, hk, hN, g1, g2, h6, hi, hf, hn⟩
  · exact .inr ⟨7, h0, k, N, hk, hN, .inl ⟨rfl, by omega⟩⟩
theorem rh_no (v : Value) (l : List Int) (c : Int) (w : World) (hB : Bytes w v l) (h : HNo l c) :
    Calls Tryz.prog 51 #[v] w fun e w' => e = .returned (.tuple #[.int .i64 0, .int .i64 0, .agg #[.bool true, .int .i64 3, .int .i64 c]]) ∧ Below w.heap.size w w' := by
  obtain ⟨-, k, N, hk, hN, h⟩ := h
  rcases h with ⟨rfl, h⟩ | ⟨h8, hl, h⟩
  · rcases h with h | ⟨h8, h | ⟨h1, h | ⟨h2, h3⟩⟩⟩
    · exact rh_short v l k N w hB hk hN h
    · exact rh_len1 v l k N w hB hk hN h8 h
    · exact rh_len2 v l k N w hB hk hN h8 h1 h
    · exact rh_len3 v l k N w hB hk hN h8 h1 h2 h3
  · rcases h with ⟨h6, rfl⟩ | ⟨h6, ⟨hi, rfl⟩ | ⟨hi, rfl, hf | ⟨hf, hn⟩⟩⟩
    · exact rh_meter v l k N w hB hk hN h8 hl h6
    · exact rh_kind v l k N w hB hk hN h8 hl h6 hi
    · exact rh_fit v l k N w hB hk hN h8 hl h6 hi hf
    · exact rh_nou v l k N w hB hk hN h8 hl h6 hi hf hn
def BdOk (D : List Int → Value → Prop) (b : List Int) (k : Int) (o : I6) : Prop :=
  (k = 1 ∧ b.getD 0 0 < 255 ∧ o = (1, b.getD 0 0, (0, 0), (0, 0), [])) ∨
  (k = 2 ∧ wi (gx (b.drop 4) 8) (gy (b.drop 4) 8) (gx ((b.drop 4).drop 8) 8) (gy ((b.drop 4).drop 8) 8) = true ∧ o = (2, 0, (gx (b.drop 4) 8, gy (b.drop 4) 8), (gx ((b.drop 4).drop 8) 8, gy ((b.drop 4).drop 8) 8), [])) ∨
  ((k = 3 ∨ k = 4) ∧ ∃ L, AOk D (b.drop 4) L ∧ L.length ≤ 100 ∧ o = (k, 0, (0, 0), (0, 0), L)) ∨
  (k = 5 ∧ o = (5, 0, (0, 0), (0, 0), []))
def BdNo (D : List Int → Value → Prop) (b : List Int) (k c d : Int) : Prop :=
  (k = 1 ∧ 255 ≤ b.getD 0 0 ∧ c = 3 ∧ d = 2) ∨
  (k = 2 ∧ wi (gx (b.drop 4) 8) (gy (b.drop 4) 8) (gx ((b.drop 4).drop 8) 8) (gy ((b.drop 4).drop 8) 8) = false ∧ c = 3 ∧ d = 4) ∨
  ((k = 3 ∨ k = 4) ∧ c = 2 ∧ (ABad D (b.drop 4) d ∨ (d = 7 ∧ ∃ L, AOk D (b.drop 4) L ∧ 100 < L.length)))
theorem body_all (b : List Int) (hb : isB b) (k : Int) (hk : isK k = true) : (∃ o, BdOk Ans b k o ∧ BdOk RAns b k o) ∨ ∃ c d, BdNo Ans b k c d ∧ BdNo RAns b k c d := by
  have hk5 : k = 1 ∨ k = 2 ∨ (k = 3 ∨ k = 4) ∨ k = 5 := by
    unfold isK at hk
    simp only [Bool.and_eq_true, decide_eq_true_eq] at hk
    omega
  rcases hk5 with e | e | e | e
  · by_cases h : b.getD 0 0 < 255
    · exact .inl ⟨_, .inl ⟨e, h, rfl⟩, .inl ⟨e, h, rfl⟩⟩
    · exact .inr ⟨3, 2, .inl ⟨e, by omega, rfl, rfl⟩, .inl ⟨e, by omega, rfl, rfl⟩⟩
  · cases h : wi (gx (b.drop 4) 8) (gy (b.drop 4) 8) (gx ((b.drop 4).drop 8) 8) (gy ((b.drop 4).drop 8) 8)
    · exact .inr ⟨3, 4, .inr (.inl ⟨e, h, rfl, rfl⟩), .inr (.inl ⟨e, h, rfl, rfl⟩)⟩
    · exact .inl ⟨_, .inr (.inl ⟨e, h, rfl⟩), .inr (.inl ⟨e, h, rfl⟩)⟩
  · rcases acts_all _ (b.drop 4) (Nat.le_refl _) (isB_dropK hb 4) with ⟨L, h1, h2⟩ | ⟨z, h1, h2⟩
    · by_cases h100 : L.length ≤ 100
      · exact .inl ⟨_, .inr (.inr (.inl ⟨e, L, h1, h100, rfl⟩)), .inr (.inr (.inl ⟨e, L, h2, h100, rfl⟩))⟩
      · exact .inr ⟨2, 7, .inr (.inr ⟨e, rfl, .inr ⟨rfl, L, h1, by omega⟩⟩), .inr (.inr ⟨e, rfl, .inr ⟨rfl, L, h2, by omega⟩⟩)⟩
    · exact .inr ⟨2, z, .inr (.inr ⟨e, rfl, .inl h1⟩), .inr (.inr ⟨e, rfl, .inl h2⟩)⟩
  · exact .inl ⟨_, .inr (.inr (.inr ⟨e, rfl⟩)), .inr (.inr (.inr ⟨e, rfl⟩))⟩
theorem rbody_ok (v : Value) (b : List Int) (k : Int) (o : I6) (w : World) (hB : Bytes w v b) (h4 : 4 ≤ b.length) (h20 : k = 2 → 12 ≤ b.length) (h : BdOk Ans b k o) :
    Calls Tryz.prog 53 #[.int .i64 k, v] w fun e w' => (∃ r, e = .returned (.tuple #[.agg #[.int .i64 o.1, .int .i64 o.2.1, .int .u64 (o.2.2.1.1 : Int), .int .u64 (o.2.2.1.2 : Int), .int .u64 (o.2.2.2.1.1 : Int), .int .u64 (o.2.2.2.1.2 : Int), r], .agg #[.bool false, .int .i64 0, .int .i64 0]]) ∧ w'.ownsRow w.heap.size 61 11 r o.2.2.2.2.length (ads o.2.2.2.2)) ∧ Below w.heap.size w w' := by
  rcases h with ⟨rfl, hy, rfl⟩ | ⟨rfl, hw, rfl⟩ | ⟨hk, L, hA, hl, rfl⟩ | ⟨rfl, rfl⟩
  · exact (rb_1 v b _ w hB h4 rfl hy).mono (by rintro e w' ⟨rfl, hb⟩; exact ⟨⟨_, rfl, World.ownsRow_nil _ _ _ _⟩, hb⟩)
  · have hb := isB_dropK hB.isB_ 4
    exact (rb_2 v b _ _ _ _ w hB (h20 rfl) rfl rfl rfl rfl (fun W => chk_ok 2 0 _ _ _ _ _ W (gx_lt _ _ hb) (gy_lt _ _) (gx_lt _ _ (isB_dropK hb 8)) (gy_lt _ _) rfl (fun e => by omega) (fun _ => hw))).mono (by rintro e w' ⟨rfl, hb⟩; exact ⟨⟨_, rfl, World.ownsRow_nil _ _ _ _⟩, hb⟩)
  · rcases hk with rfl | rfl
    · exact rb_a3 v b L _ w hB h4 (fun v W h => ad_ok v _ L W h hA hl)
    · exact rb_a4 v b L _ w hB h4 (fun v W h => ad_ok v _ L W h hA hl)
  · exact (rb_5 v b w hB h4).mono (by rintro e w' ⟨rfl, hb⟩; exact ⟨⟨_, rfl, World.ownsRow_nil _ _ _ _⟩, hb⟩)
theorem rbody_no (v : Value) (b : List Int) (k c d : Int) (w : World) (hB : Bytes w v b) (h4 : 4 ≤ b.length) (h20 : k = 2 → 12 ≤ b.length) (h : BdNo Ans b k c d) :
    Calls Tryz.prog 53 #[.int .i64 k, v] w fun e w' => e = .returned (.tuple #[.agg #[.int .i64 0, .int .i64 0, .int .u64 0, .int .u64 0, .int .u64 0, .int .u64 0, .slice none 0 0], .agg #[.bool true, .int .i64 c, .int .i64 d]]) ∧ Below w.heap.size w w' := by
  rcases h with ⟨rfl, hy, rfl, rfl⟩ | ⟨rfl, hw, rfl, rfl⟩ | ⟨hk, rfl, hA⟩
  · exact rb_1bad v b w hB h4 hy
  · have hb := isB_dropK hB.isB_ 4
    exact rb_2x v b _ _ _ _ 3 4 w hB (h20 rfl) rfl rfl rfl rfl (fun W => chk_bad 2 0 _ _ _ _ _ 4 W (gx_lt _ _ hb) (gy_lt _ _) (gx_lt _ _ (isB_dropK hb 8)) (gy_lt _ _) (.inr (.inr ⟨rfl, hw, rfl⟩)))
  · have hP : ∀ (v : Value) (W : World), Bytes W v (b.drop 4) → Calls Tryz.prog 93 #[v] W fun e w' => e = .returned (.tuple #[.slice none 0 0, .agg #[.bool true, .int .i64 2, .int .i64 d]]) ∧ Below W.heap.size W w' := fun v W h => by
      rcases hA with h1 | ⟨rfl, L, h1, h2⟩
      · exact ad_bad v _ d W h h1
      · exact ad_many v _ L W h h1 h2
    rcases hk with rfl | rfl
    · exact rb_x3 v b 2 d w hB h4 hP
    · exact rb_x4 v b 2 d w hB h4 hP
inductive DOk (D : List Int → Value → Prop) : List Int → List Int → List I6 → Prop
  | nil {ks : List Int} : DOk D ks [] []
  | cons {ks l : List Int} {k : Int} {N : Nat} {o : I6} {Os : List I6} : HOk l k N → k ∉ ks → BdOk D ((l.take N).drop 4) k o → DOk D (ks ++ [k]) (l.drop N) Os → DOk D ks l (o :: Os)
inductive DBad (D : List Int → Value → Prop) : List Int → List Int → Int → Int → Prop
  | head {ks l : List Int} {c : Int} : HNo l c → DBad D ks l 3 c
  | twice {ks l : List Int} {k : Int} {N : Nat} : HOk l k N → k ∈ ks → DBad D ks l 3 9
  | body {ks l : List Int} {k c d : Int} {N : Nat} : HOk l k N → k ∉ ks → BdNo D ((l.take N).drop 4) k c d → DBad D ks l c d
  | cons {ks l : List Int} {k c d : Int} {N : Nat} {o : I6} : HOk l k N → k ∉ ks → BdOk D ((l.take N).drop 4) k o → DBad D (ks ++ [k]) (l.drop N) c d → DBad D ks l c d
theorem insts_all (M : Nat) : ∀ (ks l : List Int), l.length ≤ M → isB l → (∃ Os, DOk Ans ks l Os ∧ DOk RAns ks l Os) ∨ ∃ c d, DBad Ans ks l c d ∧ DBad RAns ks l c d := by
  induction M with
  | zero =>
    intro ks l h _
    have e : l = [] := List.eq_nil_of_length_eq_zero (by omega)
    subst e
    exact .inl ⟨[], .nil, .nil⟩
  | succ M ih =>
    intro ks l h hl
    by_cases h0 : l.length = 0
    · have e : l = [] := List.eq_nil_of_length_eq_zero h0
      subst e
      exact .inl ⟨[], .nil, .nil⟩
    rcases head_all l hl (by omega) with ⟨k, N, hd⟩ | ⟨c, hd⟩
    · by_cases hk : k ∈ ks
      · exact .inr ⟨3, 9, .twice hd hk, .twice hd hk⟩
      · rcases body_all _ (isB_dropK (isB_takeK hl N) 4) k hd.2.2.2.2.2.1 with ⟨o, h1, h2⟩ | ⟨c, d, h1, h2⟩
        · have h8 := hd.2.2.2.1
          rcases ih (ks ++ [k]) (l.drop N) (by rw [List.length_drop]; omega) (isB_dropK hl N) with ⟨Os, k1, k2⟩ | ⟨c, d, k1, k2⟩
          · exact .inl ⟨_, .cons hd hk h1 k1, .cons hd hk h2 k2⟩
          · exact .inr ⟨c, d, .cons hd hk h1 k1, .cons hd hk h2 k2⟩
        · exact .inr ⟨c, d, .body hd hk h1, .body hd hk h2⟩
    · exact .inr ⟨3, c, .head hd, .head hd⟩
theorem HOk.len {l : List Int} {k : Int} {N : Nat} (h : HOk l k N) : 4 ≤ ((l.take N).drop 4).length ∧ (k = 2 → 12 ≤ ((l.take N).drop 4).length) ∧ ((l.take N).drop 4).length = N - 4 := by
  obtain ⟨-, -, h8, ⟨h1, h2, h3⟩, -, -, hf, -⟩ := h
  have e : ((l.take N).drop 4).length = N - 4 := by rw [List.length_drop, List.length_take]; omega
  rw [e]
  refine ⟨by omega, fun hk => ?_, rfl⟩
  subst hk
  unfold fitK at hf
  simp at hf
  omega
theorem BdOk.kind {D : List Int → Value → Prop} {b : List Int} {k : Int} {o : I6} (h : BdOk D b k o) : o.1 = k := by
  rcases h with ⟨rfl, -, rfl⟩ | ⟨rfl, -, rfl⟩ | ⟨-, L, -, -, rfl⟩ | ⟨rfl, rfl⟩ <;> rfl
end Go.Proofs.YthhijfphfcmniaaGreat
namespace Go.Proofs.YthhijfphfcmniaaGreat
open Go Go.RowKit Go.Maps
abbrev PI := I6 × Value
def icl (p : PI) : List Value := [.int .i64 p.1.1, .int .i64 p.1.2.1, .int .u64 (p.1.2.2.1.1 : Int), .int .u64 (p.1.2.2.1.2 : Int), .int .u64 (p.1.2.2.2.1.1 : Int), .int .u64 (p.1.2.2.2.1.2 : Int), p.2]
def ids (P : List PI) : List Value := P.flatMap icl
theorem ids_snoc (P : List PI) (p : PI) : ids (P ++ [p]) = ids P ++ icl p := by simp [ids]
theorem ids_at : ∀ {P : List PI} {i j : Nat} {p : PI}, P[i]? = some p → j < 7 → (ids P)[i * 7 + j]? = (icl p)[j]?
  | [], i, j, p, h, _ => by simp at h
  | q :: r, 0, j, p, h, hj => by
    simp at h
    subst h
    show (icl q ++ ids r)[0 * 7 + j]? = _
    rw [List.getElem?_append_left (by show 0 * 7 + j < 7; omega)]
    congr 1; omega
  | q :: r, i + 1, j, p, h, hj => by
    show (icl q ++ ids r)[(i + 1) * 7 + j]? = _
    rw [List.getElem?_append_right (by show 7 ≤ (i + 1) * 7 + j; omega)]
    have := ids_at (P := r) (i := i) (j := j) (p := p) (by simpa using h) hj
    rw [← this]
    congr 1
    show (i + 1) * 7 + j - 7 = _
    omega
def IRow (w : World) (base : Nat) (u : Value) (P : List PI) : Prop := w.ownsRow base 34 7 u P.length (ids P) ∧ ∀ p ∈ P, w.ownsRow base 61 11 p.2 p.1.2.2.2.2.length (ads p.1.2.2.2.2)
theorem IRow.later {w w' : World} {base : Nat} {u : Value} {P : List PI} (h : IRow w base u P) (hb : Below w.heap.size w w') : IRow w' base u P := ⟨ownr_later h.1 hb, fun p hp => ownr_later (h.2 p hp) hb⟩
theorem IRow.nil (w : World) (base : Nat) : IRow w base (.slice none 0 0) [] := ⟨World.ownsRow_nil _ _ _ _, fun p hp => by cases hp⟩
theorem IRow.kept {w w' : World} {base mb : Nat} {u : Value} {P : List PI} (h : IRow w base u P) (hg : w.grownBy w' (some mb)) (hm : mb < base) : IRow w' base u P :=
  ⟨h.1.kept hg (.inr (fun e => by have := (h.1.lt _ e).1; omega)), fun p hp => (h.2 p hp).kept hg (.inr (fun e => by have := ((h.2 p hp).lt _ e).1; omega))⟩
theorem own_setX {w : World} {base g o n size : Nat} {e ty : TypeId} {v : Value} {xs cs : List Value} (h : w.ownsRow base e size v n xs) (ha : AB w g ty cs) (hne : e ≠ ty) (x : Value) : (w.setCell ⟨g, o, none⟩ x).ownsRow base e size v n xs := by
  refine ⟨h.1, ?_⟩
  rcases h.2 with k | ⟨g2, cap, cur, rfl, hb, hk, r⟩
  · exact .inl k
  · have hn : g2 ≠ g := by
      rintro rfl
      unfold AB at ha
      rw [hk] at ha
      simp at ha
      exact hne ha.2
    exact .inr ⟨g2, cap, cur, rfl, hb, by rw [Below.heap_setCell _ _ _ _ hn]; exact hk, r⟩
theorem own_set3X {w : World} {base g n size : Nat} {e ty : TypeId} {v : Value} {xs : List Value} {c0 c1 c2 : Value} (h : w.ownsRow base e size v n xs) (ha : AB w g ty [c0, c1, c2]) (hne : e ≠ ty) (x y z : Value) : (((w.setCell ⟨g, 0, none⟩ x).setCell ⟨g, 1, none⟩ y).setCell ⟨g, 2, none⟩ z).ownsRow base e size v n xs :=
  own_setX (own_setX (own_setX h ha hne x) (ha.set (j := 0) x) hne y) ((ha.set (j := 0) x).set (j := 1) y) hne z
theorem IRow.fill3 {w : World} {base g : Nat} {u : Value} {P : List PI} {c0 c1 c2 : Value} (h : IRow w base u P) (ha : AB w g 44 [c0, c1, c2]) (x y z : Value) : IRow (((w.setCell ⟨g, 0, none⟩ x).setCell ⟨g, 1, none⟩ y).setCell ⟨g, 2, none⟩ z) base u P :=
  ⟨own_set3X h.1 ha (by decide) x y z, fun p hp => own_set3X (h.2 p hp) ha (by decide) x y z⟩
theorem IRow.push {w0 w' : World} {base : Nat} {u u' : Value} {P : List PI} {p : PI} (h : IRow w0 base u P) (hp : w0.ownsRow base 61 11 p.2 p.1.2.2.2.2.length (ads p.1.2.2.2.2)) (ho : w'.ownsRow base 34 7 u' (P.length + 1) (ids P ++ icl p)) (hg : (w0.alloc (.cells (icl p).toArray 34)).grownBy w' u.ownBlock) : IRow w' base u' (P ++ [p]) := by
  have hr := ownr_later h.1 (below1 w0 (.cells (icl p).toArray 34))
  refine ⟨by rw [List.length_append, ids_snoc]; exact ho, fun q hq => ?_⟩
  have key : ∀ q : PI, w0.ownsRow base 61 11 q.2 q.1.2.2.2.2.length (ads q.1.2.2.2.2) → w'.ownsRow base 61 11 q.2 q.1.2.2.2.2.length (ads q.1.2.2.2.2) := fun q hq => own_grownK (ownr_later hq (below1 w0 _)) hr (by decide) hg
  rcases List.mem_append.1 hq with hq | hq
  · exact key q (h.2 q hq)
  · rw [List.mem_singleton] at hq
    subst hq
    exact key _ hp
theorem IRow.at_ {w : World} {base : Nat} {u : Value} {P : List PI} (h : IRow w base u P) : InstAt w u (P.map (·.1)) := by
  rcases h.1.2 with ⟨rfl, h0⟩ | ⟨g, cap, cur, rfl, hb, hg, h1, h2, h3, h4⟩
  · have e : P = [] := List.eq_nil_of_length_eq_zero h0
    subst e
    exact InstAt.nil w
  · have hc := h.1.cells (g := g) rfl
    refine ⟨some ⟨g, 0, none⟩, cap, by rw [List.length_map], by rw [List.length_map]; exact h1, h2, (fun e => by cases e), fun i o hi => ?_⟩
    rw [List.getElem?_map] at hi
    obtain ⟨p, hp, rfl⟩ := Option.map_eq_some_iff.1 hi
    have k : ∀ j x, (icl p)[j]? = some x → j < 7 → w.cell? ⟨g, 0 + i * 7 + j, none⟩ = some x := fun j x hx hj => by
      have := hc (i * 7 + j) x (by rw [ids_at hp hj]; exact hx)
      rw [Addr.add_lit] at this
      simpa [Nat.add_assoc] using this
    exact ⟨g, 0, p.2, rfl, k 0 _ rfl (by omega), k 1 _ rfl (by omega), k 2 _ rfl (by omega), k 3 _ rfl (by omega), k 4 _ rfl (by omega), k 5 _ rfl (by omega), k 6 _ rfl (by omega), ActAt.ofOwn (h.2 p (List.mem_of_getElem? hp))⟩
theorem infoIn : (Tryz.prog.info? 34).map (fun i => (i.zero, i.size, i.bytes)) = some (some (.agg #[.int .i64 0, .int .i64 0, .int .u64 0, .int .u64 0, .int .u64 0, .int .u64 0, .slice none 0 0]), 7, 72) := by kernel_rfl
theorem zeroUU (w : World) : (zeroValue 63).run Tryz.prog w = .ok (.agg #[]) w := by kernel_rfl
def SdK (ks : List Int) : DataW Unit := setOf (.agg []) (ks.map (Lit.int .i64))
theorem SdK_has (ks : List Int) (x : Int) : Maps.has (SdK ks) (.int .i64 x) = ks.contains x := has_set ks x
theorem SdK_snoc (ks : List Int) (x : Int) : SdK (ks ++ [x]) = (SdK ks).put (.int .i64 x) (.agg []) := by
  unfold SdK
  rw [List.map_append, List.map_cons, List.map_nil, setOf_snoc]
theorem isK_wf {k : Int} (h : isK k = true) : (Lit.int .i64 k).wf = true := by
  unfold isK at h
  simp only [Bool.and_eq_true, decide_eq_true_eq] at h
  have hk : k = 1 ∨ k = 2 ∨ k = 3 ∨ k = 4 ∨ k = 5 := by omega
  rcases hk with rfl | rfl | rfl | rfl | rfl <;> decide
theorem map_set3 {w : World} {b g n : Nat} {P : Program} {k : TypeId} {R : Value → Option (DataW Unit × List MemPlace)} {D : DataW Unit} (h : w.ownsMap P k R b n D) (hne : b ≠ g) (x y z : Value) : (((w.setCell ⟨g, 0, none⟩ x).setCell ⟨g, 1, none⟩ y).setCell ⟨g, 2, none⟩ z).ownsMap P k R b n D :=
  ((h.setCell (a := ⟨g, 0, none⟩) hne x).setCell (a := ⟨g, 1, none⟩) hne y).setCell (a := ⟨g, 2, none⟩) hne z
end Go.Proofs.YthhijfphfcmniaaGreat
