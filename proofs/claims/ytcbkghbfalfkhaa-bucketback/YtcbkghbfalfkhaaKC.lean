import Derived.Test.YtcbkghbfalfkhaaKB
import Derived.Test.YtcbkghbfalfkhaaKA
import Derived.Deep.RegionHeld3
import Derived.Deep.RegionWith
import Derived.Deep.MidRow
import Derived.Deep.Cut
namespace Go.Proofs.Ytcbkghbfalfkhaa
section
open Go Go.RowKit
set_option linter.unusedVariables false
set_option linter.unusedSimpArgs false

/-- a bucket that bytes begin with, its actions told by D -/
def KStep (D : List Int → Value → Prop) (l : List Int) (N : Nat) (L : List A11) : Prop := cutOk l ∧ be2 l 0 = (N : Int) ∧ nzB (((l.take N).take 16).drop 12) = false ∧ AOk D ((l.take N).drop 16) L ∧ L.length ≤ 100
def bkOf (l : List Int) (N : Nat) (L : List A11) : BK := (be2 (l.take N) 2, be4 (l.take N) 4, be4 (l.take N) 8, L)
def KHere (D : List Int → Value → Prop) (l : List Int) (c d : Int) : Prop := 0 < l.length ∧ ((¬ cutOk l ∧ c = 6 ∧ d = 12) ∨ ∃ N : Nat, cutOk l ∧ be2 l 0 = (N : Int) ∧ ((nzB (((l.take N).take 16).drop 12) = true ∧ c = 6 ∧ d = 12) ∨ (nzB (((l.take N).take 16).drop 12) = false ∧ c = 2 ∧ (ABad D ((l.take N).drop 16) d ∨ (d = 7 ∧ ∃ L, AOk D ((l.take N).drop 16) L ∧ 100 < L.length)))))
inductive BOk (D : List Int → Value → Prop) : List Int → List BK → Prop
  | nil : BOk D [] []
  | cons {l : List Int} {N : Nat} {L : List A11} {Ls : List BK} : KStep D l N L → BOk D (l.drop N) Ls → BOk D l (bkOf l N L :: Ls)
inductive BBad (D : List Int → Value → Prop) : List Int → Int → Int → Prop
  | here {l : List Int} {c d : Int} : KHere D l c d → BBad D l c d
  | cons {l : List Int} {N : Nat} {L : List A11} {c d : Int} : KStep D l N L → BBad D (l.drop N) c d → BBad D l c d
theorem isB_dropK {l : List Int} (h : isB l) (n : Nat) : isB (l.drop n) := fun z hz => h z (List.mem_of_mem_drop hz)
theorem isB_takeK {l : List Int} (h : isB l) (n : Nat) : isB (l.take n) := fun z hz => h z (List.mem_of_mem_take hz)
theorem bucks_all (M : Nat) : ∀ l : List Int, l.length ≤ M → isB l → (∃ Ls, BOk Ans l Ls ∧ BOk RAns l Ls) ∨ ∃ c d, BBad Ans l c d ∧ BBad RAns l c d := by
  induction M with
  | zero =>
    intro l h _
    have e : l = [] := List.eq_nil_of_length_eq_zero (by omega)
    subst e
    exact .inl ⟨[], .nil, .nil⟩
  | succ M ih =>
    intro l h hl
    by_cases h0 : l.length = 0
    · have e : l = [] := List.eq_nil_of_length_eq_zero h0
      subst e
      exact .inl ⟨[], .nil, .nil⟩
    by_cases hc : cutOk l
    · have hz := be2_range hl 0
      obtain ⟨N, hN⟩ : ∃ N : Nat, be2 l 0 = (N : Int) := ⟨(be2 l 0).toNat, by omega⟩
      have h16 : 16 ≤ N := by unfold cutOk at hc; omega
      cases hn : nzB (((l.take N).take 16).drop 12)
      · rcases acts_all _ ((l.take N).drop 16) (Nat.le_refl _) (isB_dropK (isB_takeK hl N) 16) with ⟨L, h1, h2⟩ | ⟨z, h1, h2⟩
        · by_cases h100 : L.length ≤ 100
          · rcases ih (l.drop N) (by rw [List.length_drop]; omega) (isB_dropK hl N) with ⟨Ls, k1, k2⟩ | ⟨c, d, k1, k2⟩
            · exact .inl ⟨_, .cons ⟨hc, hN, hn, h1, h100⟩ k1, .cons ⟨hc, hN, hn, h2, h100⟩ k2⟩
            · exact .inr ⟨c, d, .cons ⟨hc, hN, hn, h1, h100⟩ k1, .cons ⟨hc, hN, hn, h2, h100⟩ k2⟩
          · exact .inr ⟨2, 7, .here ⟨by omega, .inr ⟨N, hc, hN, .inr ⟨hn, rfl, .inr ⟨rfl, L, h1, by omega⟩⟩⟩⟩, .here ⟨by omega, .inr ⟨N, hc, hN, .inr ⟨hn, rfl, .inr ⟨rfl, L, h2, by omega⟩⟩⟩⟩⟩
        · exact .inr ⟨2, z, .here ⟨by omega, .inr ⟨N, hc, hN, .inr ⟨hn, rfl, .inl h1⟩⟩⟩, .here ⟨by omega, .inr ⟨N, hc, hN, .inr ⟨hn, rfl, .inl h2⟩⟩⟩⟩
      · exact .inr ⟨6, 12, .here ⟨by omega, .inr ⟨N, hc, hN, .inl ⟨hn, rfl, rfl⟩⟩⟩, .here ⟨by omega, .inr ⟨N, hc, hN, .inl ⟨hn, rfl, rfl⟩⟩⟩⟩
    · exact .inr ⟨6, 12, .here ⟨by omega, .inl ⟨hc, rfl, rfl⟩⟩, .here ⟨by omega, .inl ⟨hc, rfl, rfl⟩⟩⟩
theorem bread_here (ao : Option Addr) (cap : Nat) (l : List Int) (c d : Int) (w : World) (hB : Bytes w (.slice ao l.length cap) l) (h : KHere Ans l c d) :
    Calls Try.prog 67 #[.slice ao l.length cap] w fun e w' => e = .returned (.tuple #[.agg #[.int .i64 0, .int .i64 0, .int .i64 0, .slice none 0 0], .int .i64 0, .agg #[.bool true, .int .i64 c, .int .i64 d]]) ∧ Below w.heap.size w w' := by
  rcases h.2 with ⟨h1, rfl, rfl⟩ | ⟨N, h1, h2, ⟨h3, rfl, rfl⟩ | ⟨h3, rfl, h4 | ⟨rfl, L, h4, h5⟩⟩⟩
  · exact read_bad1 ao cap l w hB h1
  · exact read_bad2 ao cap l N w hB h1 h2 h3
  · exact read_flt ao cap l N d w hB h1 h2 h3 (fun v W hv => ad_bad v _ d W hv h4)
  · exact read_flt ao cap l N 7 w hB h1 h2 h3 (fun v W hv => ad_many v _ L W hv h4 h5)
theorem bread_step (ao : Option Addr) (cap : Nat) (l : List Int) (N : Nat) (L : List A11) (w : World) (hB : Bytes w (.slice ao l.length cap) l) (h : KStep Ans l N L) :
    Calls Try.prog 67 #[.slice ao l.length cap] w fun e w' => (∃ r, e = .returned (.tuple #[.agg #[.int .i64 (bkOf l N L).1, .int .i64 (bkOf l N L).2.1, .int .i64 (bkOf l N L).2.2.1, r], .int .i64 (N : Int), .agg #[.bool false, .int .i64 0, .int .i64 0]]) ∧ w'.ownsRow w.heap.size 63 11 r L.length (ads L)) ∧ Below w.heap.size w w' :=
  read_ok ao cap l N L w hB h.1 h.2.1 h.2.2.1 h.2.2.2.1 h.2.2.2.2
/-! a list of buckets that is one's own -/
abbrev PB := BK × Value
def bcl (p : PB) : List Value := [.int .i64 p.1.1, .int .i64 p.1.2.1, .int .i64 p.1.2.2.1, p.2]
def bds (P : List PB) : List Value := P.flatMap bcl
theorem bds_snoc (P : List PB) (p : PB) : bds (P ++ [p]) = bds P ++ bcl p := by simp [bds]
theorem bds_at {P : List PB} {i j : Nat} {p : PB} (h : P[i]? = some p) (hj : j < 4) : (bds P)[i * 4 + j]? = (bcl p)[j]? := by
  induction P generalizing i with
  | nil => simp at h
  | cons x r ih =>
    cases i with
    | zero =>
      simp at h
      subst h
      unfold bds
      rw [List.flatMap_cons, List.getElem?_append_left (by simp [bcl]; omega)]
      simp
    | succ i =>
      have := ih (i := i) (by simpa using h)
      unfold bds at *
      rw [List.flatMap_cons, List.getElem?_append_right (by simp [bcl]; omega)]
      have e : (i + 1) * 4 + j - (bcl x).length = i * 4 + j := by simp [bcl]; omega
      rw [e]
      exact this
def BRow (w : World) (base : Nat) (u : Value) (P : List PB) : Prop := w.ownsRow base 96 4 u P.length (bds P) ∧ ∀ p ∈ P, w.ownsRow base 63 11 p.2 p.1.2.2.2.length (ads p.1.2.2.2)
theorem BRow.later {w w' : World} {base : Nat} {u : Value} {P : List PB} (h : BRow w base u P) (hb : Below w.heap.size w w') : BRow w' base u P := ⟨ownr_later h.1 hb, fun p hp => ownr_later (h.2 p hp) hb⟩
theorem BRow.nil (w : World) (base : Nat) : BRow w base (.slice none 0 0) [] := ⟨World.ownsRow_nil _ _ _ _, fun p hp => by cases hp⟩
theorem BRow.far3 {w : World} {base g : Nat} {u : Value} {P : List PB} (h : BRow w base u P) (hg : g < base) (x y z : Value) : BRow (((w.setCell ⟨g, 0, none⟩ x).setCell ⟨g, 1, none⟩ y).setCell ⟨g, 2, none⟩ z) base u P :=
  ⟨far3row h.1 hg x y z, fun p hp => far3row (h.2 p hp) hg x y z⟩
theorem own_grownK {w w' : World} {base base2 : Nat} {e e2 : TypeId} {size s2 : Nat} {v v2 : Value} {n n2 : Nat} {xs x2 : List Value} (h : w.ownsRow base e size v n xs) (h2 : w.ownsRow base2 e2 s2 v2 n2 x2) (hne : e ≠ e2) (hg : w.grownBy w' v2.ownBlock) : w'.ownsRow base e size v n xs := by
  refine ⟨h.1, ?_⟩
  rcases h.2 with k | ⟨g, cap, cur, rfl, hb, hk, r⟩
  · exact .inl k
  · refine .inr ⟨g, cap, cur, rfl, hb, ?_, r⟩
    rcases h2.2 with ⟨rfl, -⟩ | ⟨g2, cap2, cur2, rfl, -, hk2, -⟩
    · rw [hg.block g (Array.getElem?_eq_some_iff.1 hk).1 (fun e => by cases e)]
      exact hk
    · have hn : g ≠ g2 := by
        rintro rfl
        rw [hk] at hk2
        simp at hk2
        exact hne hk2.2
      rw [hg.block g (Array.getElem?_eq_some_iff.1 hk).1 (fun e => by injection e with e; exact hn e)]
      exact hk
theorem BRow.push {w0 w' : World} {base : Nat} {u u' : Value} {P : List PB} {p : PB} (h : BRow w0 base u P) (hp : w0.ownsRow base 63 11 p.2 p.1.2.2.2.length (ads p.1.2.2.2)) (ho : w'.ownsRow base 96 4 u' (P.length + 1) (bds P ++ bcl p)) (hg : (w0.alloc (.cells (bcl p).toArray 96)).grownBy w' u.ownBlock) : BRow w' base u' (P ++ [p]) := by
  have hr := ownr_later h.1 (below1 w0 (.cells (bcl p).toArray 96))
  refine ⟨by rw [List.length_append, bds_snoc]; exact ho, fun q hq => ?_⟩
  have key : ∀ q : PB, w0.ownsRow base 63 11 q.2 q.1.2.2.2.length (ads q.1.2.2.2) → w'.ownsRow base 63 11 q.2 q.1.2.2.2.length (ads q.1.2.2.2) := fun q hq => own_grownK (ownr_later hq (below1 w0 _)) hr (by decide) hg
  rcases List.mem_append.1 hq with hq | hq
  · exact key q (h.2 q hq)
  · rw [List.mem_singleton] at hq
    subst hq
    exact key _ hp
theorem BRow.at_ {w : World} {base : Nat} {u : Value} {P : List PB} (h : BRow w base u P) : BuckAt w u (P.map (·.1)) := by
  rcases h.1.2 with ⟨rfl, h0⟩ | ⟨g, cap, cur, rfl, hb, hg, h1, h2, h3, h4⟩
  · have e : P = [] := List.eq_nil_of_length_eq_zero h0
    subst e
    exact BuckAt.nil w
  · have hc := h.1.cells (g := g) rfl
    refine ⟨some ⟨g, 0, none⟩, cap, by rw [List.length_map], by rw [List.length_map]; exact h1, h2, (fun e => by cases e), fun i o hi => ?_⟩
    rw [List.getElem?_map] at hi
    obtain ⟨p, hp, rfl⟩ := Option.map_eq_some_iff.1 hi
    have k : ∀ j x, (bcl p)[j]? = some x → j < 4 → w.cell? ⟨g, 0 + i * 4 + j, none⟩ = some x := fun j x hx hj => by
      have := hc (i * 4 + j) x (by rw [bds_at hp hj]; exact hx)
      rw [Addr.add_lit] at this
      simpa [Nat.add_assoc] using this
    exact ⟨g, 0, p.2, rfl, k 0 _ rfl (by omega), k 1 _ rfl (by omega), k 2 _ rfl (by omega), k 3 _ rfl (by omega), ActAt.ofOwn (h.2 p (List.mem_of_getElem? hp))⟩
theorem infoBu : (Try.prog.info? 96).map (fun i => (i.zero, i.size, i.bytes)) = some (some (.agg #[.int .i64 0, .int .i64 0, .int .i64 0, .slice none 0 0]), 4, 48) := by kernel_rfl
end

section
open Go Go.RowKit
set_option linter.unusedVariables false
set_option linter.unusedSimpArgs false

theorem take_snocK {α : Type} {pre K : List α} {o : α} (h : K = pre.take 101) (hk : K.length ≤ 100) : K ++ [o] = (pre ++ [o]).take 101 := by
  have hp : pre.length ≤ 100 := by rw [h, List.length_take] at hk; omega
  have e : K = pre := by rw [h, List.take_of_length_le (by omega)]
  rw [e, List.take_of_length_le (by simp; omega)]
theorem take_skipK {α : Type} {pre K : List α} {o : α} (h : K = pre.take 101) (hk : ¬ K.length ≤ 100) : K = (pre ++ [o]).take 101 := by
  have hp : 101 ≤ pre.length := by rw [h, List.length_take] at hk; omega
  rw [h, List.take_append_of_le_length hp]

set_option maxRecDepth 100000 in
set_option maxHeartbeats 8000000 in
theorem bd_big (v : Value) (l0 : List Int) (w : World) (hB : Bytes w v l0) (h6 : 60000 < l0.length) :
    Calls Try.prog 31 #[v] w fun e w' => e = .returned (.tuple #[.slice none 0 0, .agg #[.bool true, .int .i64 6, .int .i64 12]]) ∧ Below w.heap.size w w' := by
  have F0 := hide_ (AB.at0 w 34 [.bool false, .int .i64 0, .int .i64 0])
  have B0 := hide_ (below1 w (.cells #[.bool false, .int .i64 0, .int .i64 0] 34))
  obtain ⟨ao0, cap0, rfl, hbr⟩ := hB
  have g6 : (60000 : Int) < (l0.length : Int) := by omega
  clear hbr h6
  go_enter Try.func31, Try.ntmps31
  go_wp2_with (go_at_call 66; refine (refuse6_any 12 _).mono ?_; rintro e w9 ⟨rfl, b9⟩; obtain ⟨s0, s1, s2, s3, s4, s5⟩ := (F0.out.later b9).three; obtain ⟨u0, u1, u2, -⟩ := ((F0.out.later b9).set3 (.bool true) (.int .i64 6) (.int .i64 12)).three; have bb := below_set3 (g := w.heap.size) (B0.out.trans (b9.mono B0.out.size)) (Nat.le_refl _) (.bool true) (.int .i64 6) (.int .i64 12))
  exact bodyPost_ret (v := .tuple #[.slice none 0 0, .agg #[.bool true, .int .i64 6, .int .i64 12]]) (by simp [results, Try.results31, go_sem, u0, u1, u2]) rfl ⟨rfl, bb⟩

set_option maxRecDepth 100000 in
set_option maxHeartbeats 8000000 in
theorem bd_many (v : Value) (l0 : List Int) (Ls : List BK) (w : World) (hB : Bytes w v l0) (h6 : l0.length ≤ 60000) (hP : BOk Ans l0 Ls) (hLL : 100 < Ls.length) :
    Calls Try.prog 31 #[v] w fun e w' => (e = .returned (.tuple #[.slice none 0 0, .agg #[.bool true, .int .i64 6, .int .i64 4]])) ∧ Below w.heap.size w w' := by
  have F0 := hide_ (AB.at0 w 34 [.bool false, .int .i64 0, .int .i64 0])
  have B0 := hide_ (below1 w (.cells #[.bool false, .int .i64 0, .int .i64 0] 34))
  obtain ⟨ao0, cap0, rfl, hbr⟩ := hB
  have hB : Bytes w (.slice ao0 l0.length cap0) l0 := ⟨ao0, cap0, rfl, hbr⟩
  have HB0 := hide_ (hB.later B0.out)
  have g6 : ¬ (60000 : Int) < (l0.length : Int) := by omega
  clear hB hbr h6
  obtain ⟨i0, hi0, hz0, hz1, hz2⟩ := info_parts infoBu
  have HI : Hid (Try.prog.info? 96 = some i0 ∧ i0.zero = some (.agg #[.int .i64 0, .int .i64 0, .int .i64 0, .slice none 0 0]) ∧ i0.size = 4 ∧ i0.bytes = 48) := ⟨hi0, hz0, hz1, hz2⟩
  clear hi0 hz0 hz1 hz2
  have HP := hide_ hP
  clear hP
  have HLL := hide_ hLL
  clear hLL
  go_enter Try.func31, Try.ntmps31
  go_wp2
  go_loopw [0, 4] (fun b u wr => ∃ (ao : Option Addr) (n cap : Nat) (ua : Option Addr) (uc m : Nat) (l : List Int) (pre : List BK) (P : List PB) (R : List BK), b = .slice ao n cap ∧ u = .slice ua m uc ∧ n = l.length ∧ m ≤ 101 ∧ Hid (m = P.length) ∧ Hid (Bytes (w.alloc (.cells #[.bool false, .int .i64 0, .int .i64 0] 34)) (.slice ao n cap) l) ∧ Hid (BRow wr (w.alloc (.cells #[.bool false, .int .i64 0, .int .i64 0] 34)).heap.size (.slice ua m uc) P) ∧ Hid (BOk Ans l R ∧ pre ++ R = Ls) ∧ Hid (P.map (·.1) = pre.take 101) ∧ Hid (Below (w.alloc (.cells #[.bool false, .int .i64 0, .int .i64 0] 34)).heap.size (w.alloc (.cells #[.bool false, .int .i64 0, .int .i64 0] 34)) wr)) (fun b _ _ => slen2 b)
  case atStart => exact ⟨ao0, l0.length, cap0, none, 0, 0, l0, [], [], Ls, rfl, rfl, rfl, by simp, hide_ rfl, HB0, hide_ (BRow.nil _ _), hide_ ⟨HP.out, rfl⟩, hide_ rfl, hide_ (Below.refl _ _)⟩
  case round =>
    obtain ⟨ao, n, cap, ua, uc, m, l, pre, P, R, rfl, rfl, rfl, hKl, HM, HBy, HOw, HPP, HK, KB⟩ := hrel
    obtain ⟨hpo, hpre⟩ := HPP.out
    clear HPP
    cases hpo with
    | nil =>
      have hpr : pre = Ls := by simpa using hpre
      have g100 : (100 : Int) < (m : Int) := by have h1 := congrArg List.length HK.out; rw [hpr, List.length_map, ← HM.out, List.length_take] at h1; have := HLL.out; omega
      clear hpre hpr
      go_wp2_with (go_at_call 66; refine (refuse6_any 4 _).mono ?_; rintro e w9 ⟨rfl, b9⟩; have K9 := KB.out.trans (b9.mono KB.out.size); obtain ⟨s0, s1, s2, s3, s4, s5⟩ := (F0.out.later K9).three; obtain ⟨u0, u1, u2, -⟩ := ((F0.out.later K9).set3 (.bool true) (.int .i64 6) (.int .i64 4)).three; have bb := below_set3 (g := w.heap.size) (B0.out.trans (K9.mono B0.out.size)) (Nat.le_refl _) (.bool true) (.int .i64 6) (.int .i64 4))
      exact bodyPost_ret (v := .tuple #[.slice none 0 0, .agg #[.bool true, .int .i64 6, .int .i64 4]]) (by simp [results, Try.results31, go_sem, u0, u1, u2]) rfl ⟨rfl, bb⟩
    | @cons _ nn LL RR hd hrest =>
      have hle : nn ≤ l.length := by have := hd.1; have h2 := hd.2.1; unfold cutOk at this; omega
      have h0 : 16 ≤ nn := by have := hd.1; have h2 := hd.2.1; unfold cutOk at this; omega
      have qd := bread_step ao cap l nn LL wr (HBy.out.later KB.out) hd
      obtain ⟨rn, hrn⟩ : ∃ rn, LL.length = rn := ⟨_, rfl⟩
      have HRN := hide_ hrn
      have HO1 : Hid ((bkOf l nn LL).2.2.2 = LL) := hide_ rfl
      obtain ⟨ao2, -, s2, b2⟩ := bytes_slice HBy.out nn hle
      have HB2 := hide_ b2
      have hrest := hide_ hrest
      have hpre := hide_ hpre
      obtain ⟨O, hO⟩ : ∃ O, bkOf l nn LL = O := ⟨_, rfl⟩
      rw [hO] at qd HO1
      have hpre2 : Hid (pre ++ O :: RR = Ls) := hide_ (by rw [← hO]; exact hpre.out)
      clear hpre
      obtain ⟨v1, v2, v3, LO⟩ := O
      have HO1 : LO = LL := HO1.out
      subst HO1
      have qd := hide_ qd
      have gpos : (0 : Int) < (l.length : Int) := by omega
      clear b2 hd hrn hO
      by_cases hk : m ≤ 100
      · have g100 : (m : Int) ≤ 100 := by omega
        go_wp2_with (first | (go_at_call 67; refine (qd.out).mono ?_; rintro e w3 ⟨⟨r, rfl, ho⟩, b3⟩; obtain ⟨ru, rc, er⟩ := ownr_form ho; rw [HRN.out] at er; subst er; have HA3 := hide_ (ownr_base ho KB.out.size); clear ho; have j3 : Below wr.heap.size wr ((w3.alloc (.cells #[.int .i64 v1, .int .i64 v2, .int .i64 v3, .slice ru rn rc] 96)).alloc (.cells #[.bool false, .int .i64 0, .int .i64 0] 34)) := b3.trans ((below2 w3 _ _).mono b3.size); have K3 := KB.out.trans (j3.mono KB.out.size); obtain ⟨o0, o1, o2, o3, -⟩ := ((AB.at0 w3 96 [.int .i64 v1, .int .i64 v2, .int .i64 v3, .slice ru rn rc]).alloc (.cells #[.bool false, .int .i64 0, .int .i64 0] 34)).k4; obtain ⟨f0, f1, f2, -⟩ := (AB.at1 w3 (.cells #[.int .i64 v1, .int .i64 v2, .int .i64 v3, .slice ru rn rc] 96) 34 [.bool false, .int .i64 0, .int .i64 0]).three) | (at_builtin; refine wpList_append_newG (.tmp 27) (.tmp 29) 53 rfl 96 i0 (.agg #[.int .i64 0, .int .i64 0, .int .i64 0, .slice none 0 0]) 4 48 Try.underlying53 HI.out.1 HI.out.2.1 HI.out.2.2.1 HI.out.2.2.2 rfl (by decide) (w.alloc (.cells #[.bool false, .int .i64 0, .int .i64 0] 34)).heap.size (.slice ua m uc) m (bds P) (by simp [Act.eval, Act.put]) ((w3.alloc (.cells #[.int .i64 v1, .int .i64 v2, .int .i64 v3, .slice ru rn rc] 96)).alloc (.cells #[.bool false, .int .i64 0, .int .i64 0] 34)) (by have := (HOw.out.later j3).1; rw [← HM.out] at this; exact this) [.int .i64 v1, .int .i64 v2, .int .i64 v3, .slice ru rn rc] _ rfl 1 (by simp) (by simp [Value.oneCell']) (by simp [Act.eval, Act.put]) (by simp [Region.wanted]) (by unfold maxLen; omega) (by omega) K3.size ?_; intro v4 w4 own4 b4 g4))
        have R4 : BRow w4 (w.alloc (.cells #[.bool false, .int .i64 0, .int .i64 0] 34)).heap.size v4 (P ++ [((v1, v2, v3, LO), .slice ru rn rc)]) := BRow.push (HOw.out.later j3) (by have := ownr_later HA3.out (below2 w3 (.cells #[.int .i64 v1, .int .i64 v2, .int .i64 v3, .slice ru rn rc] 96) (.cells #[.bool false, .int .i64 0, .int .i64 0] 34)); rw [← HRN.out] at this ⊢; exact this) (by rw [← HM.out]; exact own4) g4
        have hl4 : (P ++ [((v1, v2, v3, LO), Value.slice ru rn rc)]).length = m + 1 := by rw [List.length_append, ← HM.out]; rfl
        obtain ⟨ua4, uc4, e4⟩ := ownr_form R4.1
        rw [hl4] at e4
        subst e4
        have R4 := hide_ R4
        have HM4 := hide_ hl4.symm
        have HK2 := hide_ (show (P ++ [((v1, v2, v3, LO), Value.slice ru rn rc)]).map (·.1) = (pre ++ [(v1, v2, v3, LO)]).take 101 by rw [List.map_append]; exact take_snocK HK.out (by rw [List.length_map, ← HM.out]; exact hk))
        have b4 := hide_ b4
        clear hl4 own4 g4
        go_wp2
        go_roundw
        case rel => exact ⟨ao2, l.length - nn, cap - nn, ua4, uc4, m + 1, l.drop nn, pre ++ [(v1, v2, v3, LO)], P ++ [((v1, v2, v3, LO), .slice ru rn rc)], RR, rfl, rfl, by rw [List.length_drop], by omega, HM4, HB2, R4, hide_ ⟨hrest.out, by rw [← hpre2.out]; simp⟩, HK2, hide_ (K3.trans b4.out)⟩
        case measure => simp [slen2]; omega
      · have g100 : ¬ ((m : Int) ≤ 100) := by omega
        have HK2 := hide_ (take_skipK (o := (v1, v2, v3, LO)) HK.out (by rw [List.length_map, ← HM.out]; exact hk))
        go_wp2_with (go_at_call 67; refine (qd.out).mono ?_; rintro e w3 ⟨⟨r, rfl, ho⟩, b3⟩; obtain ⟨ru, rc, er⟩ := ownr_form ho; rw [HRN.out] at er; subst er; have HA3 := hide_ (ownr_base ho KB.out.size); clear ho; have j3 : Below wr.heap.size wr ((w3.alloc (.cells #[.int .i64 v1, .int .i64 v2, .int .i64 v3, .slice ru rn rc] 96)).alloc (.cells #[.bool false, .int .i64 0, .int .i64 0] 34)) := b3.trans ((below2 w3 _ _).mono b3.size); have K3 := KB.out.trans (j3.mono KB.out.size); obtain ⟨o0, o1, o2, o3, -⟩ := ((AB.at0 w3 96 [.int .i64 v1, .int .i64 v2, .int .i64 v3, .slice ru rn rc]).alloc (.cells #[.bool false, .int .i64 0, .int .i64 0] 34)).k4; obtain ⟨f0, f1, f2, -⟩ := (AB.at1 w3 (.cells #[.int .i64 v1, .int .i64 v2, .int .i64 v3, .slice ru rn rc] 96) 34 [.bool false, .int .i64 0, .int .i64 0]).three)
        go_roundw
        case rel => exact ⟨ao2, l.length - nn, cap - nn, ua, uc, m, l.drop nn, pre ++ [(v1, v2, v3, LO)], P, RR, rfl, rfl, by rw [List.length_drop], by omega, HM, HB2, hide_ (HOw.out.later j3), hide_ ⟨hrest.out, by rw [← hpre2.out]; simp⟩, HK2, hide_ K3⟩
        case measure => simp [slen2]; omega
end

section
open Go Go.RowKit
set_option linter.unusedVariables false
set_option linter.unusedSimpArgs false

set_option maxRecDepth 100000 in
set_option maxHeartbeats 8000000 in
theorem bd_ok (v : Value) (l0 : List Int) (Ls : List BK) (w : World) (hB : Bytes w v l0) (h6 : l0.length ≤ 60000) (hP : BOk Ans l0 Ls) (hLL : Ls.length ≤ 100) :
    Calls Try.prog 31 #[v] w fun e w' => (∃ r, e = .returned (.tuple #[r, .agg #[.bool false, .int .i64 0, .int .i64 0]]) ∧ BuckAt w' r Ls) ∧ Below w.heap.size w w' := by
  have F0 := hide_ (AB.at0 w 34 [.bool false, .int .i64 0, .int .i64 0])
  have B0 := hide_ (below1 w (.cells #[.bool false, .int .i64 0, .int .i64 0] 34))
  obtain ⟨ao0, cap0, rfl, hbr⟩ := hB
  have hB : Bytes w (.slice ao0 l0.length cap0) l0 := ⟨ao0, cap0, rfl, hbr⟩
  have HB0 := hide_ (hB.later B0.out)
  have g6 : ¬ (60000 : Int) < (l0.length : Int) := by omega
  clear hB hbr h6
  obtain ⟨i0, hi0, hz0, hz1, hz2⟩ := info_parts infoBu
  have HI : Hid (Try.prog.info? 96 = some i0 ∧ i0.zero = some (.agg #[.int .i64 0, .int .i64 0, .int .i64 0, .slice none 0 0]) ∧ i0.size = 4 ∧ i0.bytes = 48) := ⟨hi0, hz0, hz1, hz2⟩
  clear hi0 hz0 hz1 hz2
  have HP := hide_ hP
  clear hP
  have HLL := hide_ hLL
  clear hLL
  go_enter Try.func31, Try.ntmps31
  go_wp2
  go_loopw [0, 4] (fun b u wr => ∃ (ao : Option Addr) (n cap : Nat) (ua : Option Addr) (uc m : Nat) (l : List Int) (pre : List BK) (P : List PB) (R : List BK), b = .slice ao n cap ∧ u = .slice ua m uc ∧ n = l.length ∧ m ≤ 101 ∧ Hid (m = P.length) ∧ Hid (Bytes (w.alloc (.cells #[.bool false, .int .i64 0, .int .i64 0] 34)) (.slice ao n cap) l) ∧ Hid (BRow wr (w.alloc (.cells #[.bool false, .int .i64 0, .int .i64 0] 34)).heap.size (.slice ua m uc) P) ∧ Hid (BOk Ans l R ∧ pre ++ R = Ls) ∧ Hid (P.map (·.1) = pre.take 101) ∧ Hid (Below (w.alloc (.cells #[.bool false, .int .i64 0, .int .i64 0] 34)).heap.size (w.alloc (.cells #[.bool false, .int .i64 0, .int .i64 0] 34)) wr)) (fun b _ _ => slen2 b)
  case atStart => exact ⟨ao0, l0.length, cap0, none, 0, 0, l0, [], [], Ls, rfl, rfl, rfl, by simp, hide_ rfl, HB0, hide_ (BRow.nil _ _), hide_ ⟨HP.out, rfl⟩, hide_ rfl, hide_ (Below.refl _ _)⟩
  case round =>
    obtain ⟨ao, n, cap, ua, uc, m, l, pre, P, R, rfl, rfl, rfl, hKl, HM, HBy, HOw, HPP, HK, KB⟩ := hrel
    obtain ⟨hpo, hpre⟩ := HPP.out
    clear HPP
    cases hpo with
    | nil =>
      have hpr : pre = Ls := by simpa using hpre
      obtain ⟨s0, s1, s2, s3, s4, s5⟩ := (F0.out.later KB.out).three
      obtain ⟨u0, u1, u2, -⟩ := ((F0.out.later KB.out).set3 (.bool false) (.int .i64 0) (.int .i64 0)).three
      have bb := below_set3 (g := w.heap.size) (B0.out.trans (KB.out.mono B0.out.size)) (Nat.le_refl _) (.bool false) (.int .i64 0) (.int .i64 0)
      have hne : w.heap.size < (w.alloc (.cells #[.bool false, .int .i64 0, .int .i64 0] 34)).heap.size := by simp
      have HX := hide_ (fun x y z => (HOw.out.far3 hne x y z).at_)
      have hKL : P.map (·.1) = Ls := by rw [HK.out, hpr, List.take_of_length_le (by have := HLL.out; omega)]
      have g100 : ¬ (100 : Int) < (m : Int) := by have h1 := HLL.out; rw [← hKL, List.length_map, ← HM.out] at h1; omega
      have HKL := hide_ hKL
      clear hpre hpr hKL
      go_wp2
      refine bodyPost_ret (v := .tuple #[.slice ua m uc, .agg #[.bool false, .int .i64 0, .int .i64 0]]) (by simp [results, Try.results31, go_sem, u0, u1, u2]) rfl ⟨⟨_, rfl, ?_⟩, bb⟩
      rw [← HKL.out]
      exact HX.out _ _ _
    | @cons _ nn LL RR hd hrest =>
      have hle : nn ≤ l.length := by have := hd.1; have h2 := hd.2.1; unfold cutOk at this; omega
      have h0 : 16 ≤ nn := by have := hd.1; have h2 := hd.2.1; unfold cutOk at this; omega
      have qd := bread_step ao cap l nn LL wr (HBy.out.later KB.out) hd
      obtain ⟨rn, hrn⟩ : ∃ rn, LL.length = rn := ⟨_, rfl⟩
      have HRN := hide_ hrn
      have HO1 : Hid ((bkOf l nn LL).2.2.2 = LL) := hide_ rfl
      obtain ⟨ao2, -, s2, b2⟩ := bytes_slice HBy.out nn hle
      have HB2 := hide_ b2
      have hrest := hide_ hrest
      have hpre := hide_ hpre
      obtain ⟨O, hO⟩ : ∃ O, bkOf l nn LL = O := ⟨_, rfl⟩
      rw [hO] at qd HO1
      have hpre2 : Hid (pre ++ O :: RR = Ls) := hide_ (by rw [← hO]; exact hpre.out)
      clear hpre
      obtain ⟨v1, v2, v3, LO⟩ := O
      have HO1 : LO = LL := HO1.out
      subst HO1
      have qd := hide_ qd
      have gpos : (0 : Int) < (l.length : Int) := by omega
      clear b2 hd hrn hO
      by_cases hk : m ≤ 100
      · have g100 : (m : Int) ≤ 100 := by omega
        go_wp2_with (first | (go_at_call 67; refine (qd.out).mono ?_; rintro e w3 ⟨⟨r, rfl, ho⟩, b3⟩; obtain ⟨ru, rc, er⟩ := ownr_form ho; rw [HRN.out] at er; subst er; have HA3 := hide_ (ownr_base ho KB.out.size); clear ho; have j3 : Below wr.heap.size wr ((w3.alloc (.cells #[.int .i64 v1, .int .i64 v2, .int .i64 v3, .slice ru rn rc] 96)).alloc (.cells #[.bool false, .int .i64 0, .int .i64 0] 34)) := b3.trans ((below2 w3 _ _).mono b3.size); have K3 := KB.out.trans (j3.mono KB.out.size); obtain ⟨o0, o1, o2, o3, -⟩ := ((AB.at0 w3 96 [.int .i64 v1, .int .i64 v2, .int .i64 v3, .slice ru rn rc]).alloc (.cells #[.bool false, .int .i64 0, .int .i64 0] 34)).k4; obtain ⟨f0, f1, f2, -⟩ := (AB.at1 w3 (.cells #[.int .i64 v1, .int .i64 v2, .int .i64 v3, .slice ru rn rc] 96) 34 [.bool false, .int .i64 0, .int .i64 0]).three) | (at_builtin; refine wpList_append_newG (.tmp 27) (.tmp 29) 53 rfl 96 i0 (.agg #[.int .i64 0, .int .i64 0, .int .i64 0, .slice none 0 0]) 4 48 Try.underlying53 HI.out.1 HI.out.2.1 HI.out.2.2.1 HI.out.2.2.2 rfl (by decide) (w.alloc (.cells #[.bool false, .int .i64 0, .int .i64 0] 34)).heap.size (.slice ua m uc) m (bds P) (by simp [Act.eval, Act.put]) ((w3.alloc (.cells #[.int .i64 v1, .int .i64 v2, .int .i64 v3, .slice ru rn rc] 96)).alloc (.cells #[.bool false, .int .i64 0, .int .i64 0] 34)) (by have := (HOw.out.later j3).1; rw [← HM.out] at this; exact this) [.int .i64 v1, .int .i64 v2, .int .i64 v3, .slice ru rn rc] _ rfl 1 (by simp) (by simp [Value.oneCell']) (by simp [Act.eval, Act.put]) (by simp [Region.wanted]) (by unfold maxLen; omega) (by omega) K3.size ?_; intro v4 w4 own4 b4 g4))
        have R4 : BRow w4 (w.alloc (.cells #[.bool false, .int .i64 0, .int .i64 0] 34)).heap.size v4 (P ++ [((v1, v2, v3, LO), .slice ru rn rc)]) := BRow.push (HOw.out.later j3) (by have := ownr_later HA3.out (below2 w3 (.cells #[.int .i64 v1, .int .i64 v2, .int .i64 v3, .slice ru rn rc] 96) (.cells #[.bool false, .int .i64 0, .int .i64 0] 34)); rw [← HRN.out] at this ⊢; exact this) (by rw [← HM.out]; exact own4) g4
        have hl4 : (P ++ [((v1, v2, v3, LO), Value.slice ru rn rc)]).length = m + 1 := by rw [List.length_append, ← HM.out]; rfl
        obtain ⟨ua4, uc4, e4⟩ := ownr_form R4.1
        rw [hl4] at e4
        subst e4
        have R4 := hide_ R4
        have HM4 := hide_ hl4.symm
        have HK2 := hide_ (show (P ++ [((v1, v2, v3, LO), Value.slice ru rn rc)]).map (·.1) = (pre ++ [(v1, v2, v3, LO)]).take 101 by rw [List.map_append]; exact take_snocK HK.out (by rw [List.length_map, ← HM.out]; exact hk))
        have b4 := hide_ b4
        clear hl4 own4 g4
        go_wp2
        go_roundw
        case rel => exact ⟨ao2, l.length - nn, cap - nn, ua4, uc4, m + 1, l.drop nn, pre ++ [(v1, v2, v3, LO)], P ++ [((v1, v2, v3, LO), .slice ru rn rc)], RR, rfl, rfl, by rw [List.length_drop], by omega, HM4, HB2, R4, hide_ ⟨hrest.out, by rw [← hpre2.out]; simp⟩, HK2, hide_ (K3.trans b4.out)⟩
        case measure => simp [slen2]; omega
      · have g100 : ¬ ((m : Int) ≤ 100) := by omega
        have HK2 := hide_ (take_skipK (o := (v1, v2, v3, LO)) HK.out (by rw [List.length_map, ← HM.out]; exact hk))
        go_wp2_with (go_at_call 67; refine (qd.out).mono ?_; rintro e w3 ⟨⟨r, rfl, ho⟩, b3⟩; obtain ⟨ru, rc, er⟩ := ownr_form ho; rw [HRN.out] at er; subst er; have HA3 := hide_ (ownr_base ho KB.out.size); clear ho; have j3 : Below wr.heap.size wr ((w3.alloc (.cells #[.int .i64 v1, .int .i64 v2, .int .i64 v3, .slice ru rn rc] 96)).alloc (.cells #[.bool false, .int .i64 0, .int .i64 0] 34)) := b3.trans ((below2 w3 _ _).mono b3.size); have K3 := KB.out.trans (j3.mono KB.out.size); obtain ⟨o0, o1, o2, o3, -⟩ := ((AB.at0 w3 96 [.int .i64 v1, .int .i64 v2, .int .i64 v3, .slice ru rn rc]).alloc (.cells #[.bool false, .int .i64 0, .int .i64 0] 34)).k4; obtain ⟨f0, f1, f2, -⟩ := (AB.at1 w3 (.cells #[.int .i64 v1, .int .i64 v2, .int .i64 v3, .slice ru rn rc] 96) 34 [.bool false, .int .i64 0, .int .i64 0]).three)
        go_roundw
        case rel => exact ⟨ao2, l.length - nn, cap - nn, ua, uc, m, l.drop nn, pre ++ [(v1, v2, v3, LO)], P, RR, rfl, rfl, by rw [List.length_drop], by omega, HM, HB2, hide_ (HOw.out.later j3), hide_ ⟨hrest.out, by rw [← hpre2.out]; simp⟩, HK2, hide_ K3⟩
        case measure => simp [slen2]; omega
end

section
open Go Go.RowKit
set_option linter.unusedVariables false
set_option linter.unusedSimpArgs false

set_option maxRecDepth 100000 in
set_option maxHeartbeats 8000000 in
theorem bd_bad (v : Value) (l0 : List Int) (c d : Int) (w : World) (hB : Bytes w v l0) (h6 : l0.length ≤ 60000) (hP : BBad Ans l0 c d) :
    Calls Try.prog 31 #[v] w fun e w' => (e = .returned (.tuple #[.slice none 0 0, .agg #[.bool true, .int .i64 c, .int .i64 d]])) ∧ Below w.heap.size w w' := by
  have F0 := hide_ (AB.at0 w 34 [.bool false, .int .i64 0, .int .i64 0])
  have B0 := hide_ (below1 w (.cells #[.bool false, .int .i64 0, .int .i64 0] 34))
  obtain ⟨ao0, cap0, rfl, hbr⟩ := hB
  have hB : Bytes w (.slice ao0 l0.length cap0) l0 := ⟨ao0, cap0, rfl, hbr⟩
  have HB0 := hide_ (hB.later B0.out)
  have g6 : ¬ (60000 : Int) < (l0.length : Int) := by omega
  clear hB hbr h6
  obtain ⟨i0, hi0, hz0, hz1, hz2⟩ := info_parts infoBu
  have HI : Hid (Try.prog.info? 96 = some i0 ∧ i0.zero = some (.agg #[.int .i64 0, .int .i64 0, .int .i64 0, .slice none 0 0]) ∧ i0.size = 4 ∧ i0.bytes = 48) := ⟨hi0, hz0, hz1, hz2⟩
  clear hi0 hz0 hz1 hz2
  have HP := hide_ hP
  clear hP
  go_enter Try.func31, Try.ntmps31
  go_wp2
  go_loopw [0, 4] (fun b u wr => ∃ (ao : Option Addr) (n cap : Nat) (ua : Option Addr) (uc m : Nat) (l : List Int) (pre : List BK) (P : List PB), b = .slice ao n cap ∧ u = .slice ua m uc ∧ n = l.length ∧ m ≤ 101 ∧ Hid (m = P.length) ∧ Hid (Bytes (w.alloc (.cells #[.bool false, .int .i64 0, .int .i64 0] 34)) (.slice ao n cap) l) ∧ Hid (BRow wr (w.alloc (.cells #[.bool false, .int .i64 0, .int .i64 0] 34)).heap.size (.slice ua m uc) P) ∧ Hid (BBad Ans l c d) ∧ Hid (P.map (·.1) = pre.take 101) ∧ Hid (Below (w.alloc (.cells #[.bool false, .int .i64 0, .int .i64 0] 34)).heap.size (w.alloc (.cells #[.bool false, .int .i64 0, .int .i64 0] 34)) wr)) (fun b _ _ => slen2 b)
  case atStart => exact ⟨ao0, l0.length, cap0, none, 0, 0, l0, [], [], rfl, rfl, rfl, by simp, hide_ rfl, HB0, hide_ (BRow.nil _ _), HP, hide_ rfl, hide_ (Below.refl _ _)⟩
  case round =>
    obtain ⟨ao, n, cap, ua, uc, m, l, pre, P, rfl, rfl, rfl, hKl, HM, HBy, HOw, HPP, HK, KB⟩ := hrel
    have hpo := HPP.out
    clear HPP
    cases hpo with
    | here hd =>
      have qd := bread_here ao cap l c d wr (HBy.out.later KB.out) hd
      have h0 := hd.1
      have qd := hide_ qd
      clear hd
      have gpos : (0 : Int) < (l.length : Int) := by omega
      go_upto_region 7 with (first | (go_at_call 67; refine (qd.out).mono ?_; rintro e w3 ⟨rfl, b3⟩; have j3 : Below wr.heap.size wr ((w3.alloc (.cells #[.int .i64 0, .int .i64 0, .int .i64 0, .slice none 0 0] 96)).alloc (.cells #[.bool true, .int .i64 c, .int .i64 d] 34)) := b3.trans ((below2 w3 _ _).mono b3.size); have K3 := KB.out.trans (j3.mono KB.out.size); obtain ⟨o0, o1, o2, o3, -⟩ := ((AB.at0 w3 96 [.int .i64 0, .int .i64 0, .int .i64 0, .slice none 0 0]).alloc (.cells #[.bool true, .int .i64 c, .int .i64 d] 34)).k4; obtain ⟨f0, f1, f2, -⟩ := (AB.at1 w3 (.cells #[.int .i64 0, .int .i64 0, .int .i64 0, .slice none 0 0] 96) 34 [.bool true, .int .i64 c, .int .i64 d]).three))
      have BX := B0.out.trans (K3.mono B0.out.size)
      have hgw : w.heap.size < w3.heap.size := Nat.lt_of_lt_of_le (Nat.lt_of_lt_of_le (by simp) KB.out.size) b3.size
      have FD := F0.out.later K3
      generalize ((w3.alloc (.cells #[.int .i64 0, .int .i64 0, .int .i64 0, .slice none 0 0] 96)).alloc (.cells #[.bool true, .int .i64 c, .int .i64 d] 34)) = X at *
      have FD : AB X.drew w.heap.size 34 [.bool false, .int .i64 0, .int .i64 0] := FD
      obtain ⟨s0, s1, s2, s3, s4, s5⟩ := FD.three
      obtain ⟨u0, u1, u2, -⟩ := (FD.set3 (.bool true) (.int .i64 c) (.int .i64 d)).three
      clear FD
      refine wp_region_held_drew (S := (fun w' => w'.cell? ⟨w3.heap.size + 1, 0, none⟩ = some (.bool true) ∧ w'.cell? ⟨w3.heap.size + 1, 1, none⟩ = some (.int .i64 c) ∧ w'.cell? ⟨w3.heap.size + 1, 2, none⟩ = some (.int .i64 d) ∧ Below w.heap.size w w')) (by kernel_rfl) (⟨f0, f1, f2, BX.drew⟩) (fun hHeld => ?_)
      generalize X.drew = D at *
      refine takeR (i := 0) (v := ?_) rfl (by kernel_rfl) (by kernel_rfl) (by kernel_rfl) (some 23) rfl (Or.inl ⟨by rfl, ?_⟩) (fun _ _ _ h => h) (by assumption) ?_
      rotate_left
      · intro w hSw; (try dsimp only at hSw); go_simp; (try with_reducible rfl)
      simp only [Act.put, List.setIfInBounds_toArray, List.set_cons_zero, List.set_cons_succ]
      refine takeR (i := 1) (v := ?_) rfl (by kernel_rfl) (by kernel_rfl) (by kernel_rfl) (some 2) rfl (Or.inl ⟨by rfl, ?_⟩) (fun _ _ _ h => h) (by assumption) ?_
      rotate_left
      · intro w hSw; (try dsimp only at hSw); go_simp; (try with_reducible rfl)
      simp only [Act.put, List.setIfInBounds_toArray, List.set_cons_zero, List.set_cons_succ]
      refine wpAnyH_ready (rs := [2]) (by kernel_rfl) (by simp) ?_
      refine AllReadyH.cons rfl (fun K hK => ?_) (AllReadyH.nil)
      go_simp
      refine hK.out _ _ (kW3_3 hHeld (by omega) (by dsimp only; omega) (by dsimp only; omega) (by dsimp only; omega)) (fun hHeld => ?_)
      clear hK K
      try simp only [Act.put, List.setIfInBounds_toArray, List.set_cons_zero, List.set_cons_succ]
      refine wpAnyH_done (by kernel_rfl) ?_ _
      go_wp2_with fail
      exact bodyPost_ret (v := .tuple #[.slice none 0 0, .agg #[.bool true, .int .i64 c, .int .i64 d]]) (by simp [results, Try.results31, go_sem, u0, u1, u2]) rfl ⟨rfl, hHeld.2.2.2⟩
    | @cons _ nn LL _ _ hd hrest =>
      have hle : nn ≤ l.length := by have := hd.1; have h2 := hd.2.1; unfold cutOk at this; omega
      have h0 : 16 ≤ nn := by have := hd.1; have h2 := hd.2.1; unfold cutOk at this; omega
      have qd := bread_step ao cap l nn LL wr (HBy.out.later KB.out) hd
      obtain ⟨rn, hrn⟩ : ∃ rn, LL.length = rn := ⟨_, rfl⟩
      have HRN := hide_ hrn
      have HO1 : Hid ((bkOf l nn LL).2.2.2 = LL) := hide_ rfl
      obtain ⟨ao2, -, s2, b2⟩ := bytes_slice HBy.out nn hle
      have HB2 := hide_ b2
      have hrest := hide_ hrest
      obtain ⟨O, hO⟩ : ∃ O, bkOf l nn LL = O := ⟨_, rfl⟩
      rw [hO] at qd HO1
      obtain ⟨v1, v2, v3, LO⟩ := O
      have HO1 : LO = LL := HO1.out
      subst HO1
      have qd := hide_ qd
      have gpos : (0 : Int) < (l.length : Int) := by omega
      clear b2 hd hrn hO
      by_cases hk : m ≤ 100
      · have g100 : (m : Int) ≤ 100 := by omega
        go_wp2_with (first | (go_at_call 67; refine (qd.out).mono ?_; rintro e w3 ⟨⟨r, rfl, ho⟩, b3⟩; obtain ⟨ru, rc, er⟩ := ownr_form ho; rw [HRN.out] at er; subst er; have HA3 := hide_ (ownr_base ho KB.out.size); clear ho; have j3 : Below wr.heap.size wr ((w3.alloc (.cells #[.int .i64 v1, .int .i64 v2, .int .i64 v3, .slice ru rn rc] 96)).alloc (.cells #[.bool false, .int .i64 0, .int .i64 0] 34)) := b3.trans ((below2 w3 _ _).mono b3.size); have K3 := KB.out.trans (j3.mono KB.out.size); obtain ⟨o0, o1, o2, o3, -⟩ := ((AB.at0 w3 96 [.int .i64 v1, .int .i64 v2, .int .i64 v3, .slice ru rn rc]).alloc (.cells #[.bool false, .int .i64 0, .int .i64 0] 34)).k4; obtain ⟨f0, f1, f2, -⟩ := (AB.at1 w3 (.cells #[.int .i64 v1, .int .i64 v2, .int .i64 v3, .slice ru rn rc] 96) 34 [.bool false, .int .i64 0, .int .i64 0]).three) | (at_builtin; refine wpList_append_newG (.tmp 27) (.tmp 29) 53 rfl 96 i0 (.agg #[.int .i64 0, .int .i64 0, .int .i64 0, .slice none 0 0]) 4 48 Try.underlying53 HI.out.1 HI.out.2.1 HI.out.2.2.1 HI.out.2.2.2 rfl (by decide) (w.alloc (.cells #[.bool false, .int .i64 0, .int .i64 0] 34)).heap.size (.slice ua m uc) m (bds P) (by simp [Act.eval, Act.put]) ((w3.alloc (.cells #[.int .i64 v1, .int .i64 v2, .int .i64 v3, .slice ru rn rc] 96)).alloc (.cells #[.bool false, .int .i64 0, .int .i64 0] 34)) (by have := (HOw.out.later j3).1; rw [← HM.out] at this; exact this) [.int .i64 v1, .int .i64 v2, .int .i64 v3, .slice ru rn rc] _ rfl 1 (by simp) (by simp [Value.oneCell']) (by simp [Act.eval, Act.put]) (by simp [Region.wanted]) (by unfold maxLen; omega) (by omega) K3.size ?_; intro v4 w4 own4 b4 g4))
        have R4 : BRow w4 (w.alloc (.cells #[.bool false, .int .i64 0, .int .i64 0] 34)).heap.size v4 (P ++ [((v1, v2, v3, LO), .slice ru rn rc)]) := BRow.push (HOw.out.later j3) (by have := ownr_later HA3.out (below2 w3 (.cells #[.int .i64 v1, .int .i64 v2, .int .i64 v3, .slice ru rn rc] 96) (.cells #[.bool false, .int .i64 0, .int .i64 0] 34)); rw [← HRN.out] at this ⊢; exact this) (by rw [← HM.out]; exact own4) g4
        have hl4 : (P ++ [((v1, v2, v3, LO), Value.slice ru rn rc)]).length = m + 1 := by rw [List.length_append, ← HM.out]; rfl
        obtain ⟨ua4, uc4, e4⟩ := ownr_form R4.1
        rw [hl4] at e4
        subst e4
        have R4 := hide_ R4
        have HM4 := hide_ hl4.symm
        have HK2 := hide_ (show (P ++ [((v1, v2, v3, LO), Value.slice ru rn rc)]).map (·.1) = (pre ++ [(v1, v2, v3, LO)]).take 101 by rw [List.map_append]; exact take_snocK HK.out (by rw [List.length_map, ← HM.out]; exact hk))
        have b4 := hide_ b4
        clear hl4 own4 g4
        go_wp2
        go_roundw
        case rel => exact ⟨ao2, l.length - nn, cap - nn, ua4, uc4, m + 1, l.drop nn, pre ++ [(v1, v2, v3, LO)], P ++ [((v1, v2, v3, LO), .slice ru rn rc)], rfl, rfl, by rw [List.length_drop], by omega, HM4, HB2, R4, hrest, HK2, hide_ (K3.trans b4.out)⟩
        case measure => simp [slen2]; omega
      · have g100 : ¬ ((m : Int) ≤ 100) := by omega
        have HK2 := hide_ (take_skipK (o := (v1, v2, v3, LO)) HK.out (by rw [List.length_map, ← HM.out]; exact hk))
        go_wp2_with (go_at_call 67; refine (qd.out).mono ?_; rintro e w3 ⟨⟨r, rfl, ho⟩, b3⟩; obtain ⟨ru, rc, er⟩ := ownr_form ho; rw [HRN.out] at er; subst er; have HA3 := hide_ (ownr_base ho KB.out.size); clear ho; have j3 : Below wr.heap.size wr ((w3.alloc (.cells #[.int .i64 v1, .int .i64 v2, .int .i64 v3, .slice ru rn rc] 96)).alloc (.cells #[.bool false, .int .i64 0, .int .i64 0] 34)) := b3.trans ((below2 w3 _ _).mono b3.size); have K3 := KB.out.trans (j3.mono KB.out.size); obtain ⟨o0, o1, o2, o3, -⟩ := ((AB.at0 w3 96 [.int .i64 v1, .int .i64 v2, .int .i64 v3, .slice ru rn rc]).alloc (.cells #[.bool false, .int .i64 0, .int .i64 0] 34)).k4; obtain ⟨f0, f1, f2, -⟩ := (AB.at1 w3 (.cells #[.int .i64 v1, .int .i64 v2, .int .i64 v3, .slice ru rn rc] 96) 34 [.bool false, .int .i64 0, .int .i64 0]).three)
        go_roundw
        case rel => exact ⟨ao2, l.length - nn, cap - nn, ua, uc, m, l.drop nn, pre ++ [(v1, v2, v3, LO)], P, rfl, rfl, by rw [List.length_drop], by omega, HM, HB2, hide_ (HOw.out.later j3), hrest, HK2, hide_ K3⟩
        case measure => simp [slen2]; omega
end

end Go.Proofs.Ytcbkghbfalfkhaa
