import Derived.Test.YtadgppedodlgmaaJD
import Derived.Test.YtadgppedodlgmaaJC
import Derived.Test.YtadgppedodlgmaaJA
import Derived.Test.YtadgppedodlgmaaJB
import Derived.Deep.RegionHeld3
import Derived.Deep.RegionWith
import Derived.Deep.MidRow
import Derived.Deep.Cut
import Derived.Test.YtadgppedodlgmaaJF
import Derived.Test.YtadgppedodlgmaaJE
namespace Go.Proofs.Ytadgppedodlgmaa
section
open Go Go.RowKit
set_option linter.unusedVariables false
set_option linter.unusedSimpArgs false

def LA : List A11 := [(18, 0, 0, 0, 0, 0, false, 0, 0, 0, 0), (22, 0, 0, 3, 0, 0, false, 0, 0, 0, 0), (0, 2, 0, 0, 0, 0, false, 0, 0, 0, 0)]
theorem la_at (w : World) : ActAt (w.alloc (.cells #[.int .i64 18, .int .i64 0, .int .i64 0, .int .i64 0, .int .i64 0, .int .i64 0, .bool false, .int .u64 0, .int .u64 0, .int .u64 0, .int .u64 0, .int .i64 22, .int .i64 0, .int .i64 0, .int .i64 3, .int .i64 0, .int .i64 0, .bool false, .int .u64 0, .int .u64 0, .int .u64 0, .int .u64 0, .int .i64 0, .int .i64 2, .int .i64 0, .int .i64 0, .int .i64 0, .int .i64 0, .bool false, .int .u64 0, .int .u64 0, .int .u64 0, .int .u64 0] 46)) (.slice (some ⟨w.heap.size, 0, none⟩) 3 3) LA := by
  refine ActAt.ofOwn (base := w.heap.size) (e := 46) ⟨by decide, .inr ⟨w.heap.size, 3, _, rfl, Nat.le_refl _, heap_alloc_last w _, by decide, by decide, by decide, rfl⟩⟩
theorem la_fit : AFit LA := by
  intro k p x q y f m a b c d hi
  simp only [LA, List.mem_cons, List.not_mem_nil, or_false, Prod.mk.injEq] at hi
  rcases hi with ⟨rfl, rfl, rfl, rfl, rfl, rfl, rfl, rfl, rfl, rfl, rfl⟩ | ⟨rfl, rfl, rfl, rfl, rfl, rfl, rfl, rfl, rfl, rfl, rfl⟩ | ⟨rfl, rfl, rfl, rfl, rfl, rfl, rfl, rfl, rfl, rfl, rfl⟩ <;> decide
theorem la_right : LA.all artO = true := by decide +kernel
theorem la_len : (encA LA).length = 32 := by decide +kernel
theorem la_ports : portsL LA = [2] := by decide
theorem la_groups : groupsL LA = [3] := by decide
theorem lit_cells (w : World) (z : Int) : Cells (w.alloc (.cells #[.int .i64 z] 3)) (.slice (some ⟨w.heap.size, 0, none⟩) 1 1) 1 [z].length (ints [z]) :=
  Cells.ofOwn (base := w.heap.size) (e := 3) ⟨rfl, .inr ⟨w.heap.size, 1, _, rfl, Nat.le_refl _, heap_alloc_last w _, Nat.le_refl _, by decide, rfl, rfl⟩⟩

set_option maxRecDepth 100000 in
set_option maxHeartbeats 8000000 in
theorem awake13_any (w : World) :
    Calls Try.prog 7 #[] w fun e w' => e = .returned (.bool true) ∧ Below w.heap.size w w' := by
  have BB := hide_ (below1 w (.cells #[.int .i64 18, .int .i64 0, .int .i64 0, .int .i64 0, .int .i64 0, .int .i64 0, .bool false, .int .u64 0, .int .u64 0, .int .u64 0, .int .u64 0, .int .i64 22, .int .i64 0, .int .i64 0, .int .i64 3, .int .i64 0, .int .i64 0, .bool false, .int .u64 0, .int .u64 0, .int .u64 0, .int .u64 0, .int .i64 0, .int .i64 2, .int .i64 0, .int .i64 0, .int .i64 0, .int .i64 0, .bool false, .int .u64 0, .int .u64 0, .int .u64 0, .int .u64 0] 46))
  have qe := hide_ (le_yes _ LA (w.alloc (.cells #[.int .i64 18, .int .i64 0, .int .i64 0, .int .i64 0, .int .i64 0, .int .i64 0, .bool false, .int .u64 0, .int .u64 0, .int .u64 0, .int .u64 0, .int .i64 22, .int .i64 0, .int .i64 0, .int .i64 3, .int .i64 0, .int .i64 0, .bool false, .int .u64 0, .int .u64 0, .int .u64 0, .int .u64 0, .int .i64 0, .int .i64 2, .int .i64 0, .int .i64 0, .int .i64 0, .int .i64 0, .bool false, .int .u64 0, .int .u64 0, .int .u64 0, .int .u64 0] 46)) (la_at w) @la_fit (by decide) la_right)
  have HA := hide_ (la_at w)
  have hAO := hide_ (aok_enc LA @la_fit la_right)
  have qp := fun W => lports_any (.slice (some ⟨w.heap.size, 0, none⟩) 3 3) LA W
  have qg := fun W => lgroups_any (.slice (some ⟨w.heap.size, 0, none⟩) 3 3) LA W
  rw [la_ports] at qp
  rw [la_groups] at qg
  have qp := hide_ qp
  have qg := hide_ qg
  go_enter Try.func7, Try.ntmps7
  go_wp2_with (first
    | (go_at_call 8; refine qe.out.mono ?_; rintro e w1 ⟨r1, rfl, h1, b1⟩; obtain ⟨ra, rc, re⟩ := h1.bytes.short; rw [la_len] at re; subst re; have qd := hide_ (ad_ok _ (encA LA) LA w1 h1.bytes hAO.out (by decide)); clear h1)
    | (go_at_call 18; refine qd.out.mono ?_; rintro e w2 ⟨⟨r2, rfl, o2⟩, b2⟩; have KB := hide_ (b1.trans (b2.mono b1.size)); have KC := hide_ (KB.out.trans ((below1 w2 (.cells #[.bool false, .int .i64 0, .int .i64 0] 34)).mono KB.out.size)); obtain ⟨f0, f1, f2, -⟩ := (AB.at0 w2 34 [.bool false, .int .i64 0, .int .i64 0]).three; have qs := hide_ (lsame_any (.slice (some ⟨w.heap.size, 0, none⟩) 3 3) r2 LA LA (w2.alloc (.cells #[.bool false, .int .i64 0, .int .i64 0] 34)) (HA.out.later KC.out) ((ActAt.ofOwn o2).later (below1 w2 (.cells #[.bool false, .int .i64 0, .int .i64 0] 34)))); rw [sameL_refl] at qs; obtain ⟨sa, scc, se⟩ := ownr_form o2; subst se)
    | (go_at_call 11; refine qs.out.mono ?_; rintro e w3 ⟨rfl, b3⟩; have K3 := hide_ (KC.out.trans (b3.mono KC.out.size)))
    | (go_at_call 14; refine (qp.out _ (HA.out.later K3.out) (by decide)).mono ?_; rintro e w4 ⟨r4, rfl, o4, b4⟩; have K4 := hide_ (K3.out.trans (b4.mono K3.out.size)); have C4 := hide_ ((Cells.ofOwn o4).later (below1 w4 (.cells #[.int .i64 2] 3))); have L4 := hide_ (lit_cells w4 2); have K5 := hide_ (K4.out.trans ((below1 w4 (.cells #[.int .i64 2] 3)).mono K4.out.size)); obtain ⟨pa, pc, pe⟩ := ownr_form o4; subst pe)
    | (go_at_call 13; first | (refine (pequal_any _ _ [3] _ C7.out L7.out).mono ?_; rintro e w8 ⟨rfl, b8⟩; have K9 := hide_ (K8.out.trans (b8.mono K8.out.size))) | (refine (pequal_any _ _ [2] _ C4.out L4.out).mono ?_; rintro e w6 ⟨rfl, b6⟩; have K6 := hide_ (K5.out.trans (b6.mono K5.out.size))))
    | (go_at_call 16; refine (qg.out _ (HA.out.later K6.out) (by decide)).mono ?_; rintro e w7 ⟨r7, rfl, o7, b7⟩; have K7 := hide_ (K6.out.trans (b7.mono K6.out.size)); have C7 := hide_ ((Cells.ofOwn o7).later (below1 w7 (.cells #[.int .i64 3] 3))); have L7 := hide_ (lit_cells w7 3); have K8 := hide_ (K7.out.trans ((below1 w7 (.cells #[.int .i64 3] 3)).mono K7.out.size)); obtain ⟨ga, gc, ge⟩ := ownr_form o7; subst ge))
  go_ret
  exact ⟨rfl, BB.out.trans (K9.out.mono BB.out.size)⟩
end

section
open Go Go.RowKit
set_option linter.unusedVariables false
set_option linter.unusedSimpArgs false

def encR (L : List A11) (B : List Int) (er : Int) : Prop := (L.length ≤ 100 ∧ L.all artO = true ∧ B = encA L ∧ er = 0) ∨ (¬ (L.length ≤ 100 ∧ L.all artO = true) ∧ B = [] ∧ er = 1)
theorem encR_some (L : List A11) : ∃ B er, encR L B er := by
  by_cases h : L.length ≤ 100 ∧ L.all artO = true
  · exact ⟨_, _, .inl ⟨h.1, h.2, rfl, rfl⟩⟩
  · exact ⟨_, _, .inr ⟨h, rfl, rfl⟩⟩
theorem le_all {v : Value} {L : List A11} {B : List Int} {er : Int} {w : World} (hL : ActAt w v L) (hF : AFit L) (h : encR L B er) : Calls Try.prog 8 #[v] w fun e w' => ∃ r, e = .returned (.tuple #[r, .int .i64 er]) ∧ OwnB w' w.heap.size r B ∧ Below w.heap.size w w' := by
  rcases h with ⟨h1, h2, rfl, rfl⟩ | ⟨h1, rfl, rfl⟩
  · exact le_yes v L w hL @hF h1 h2
  · by_cases hb : L.length ≤ 100
    · have hr : L.all artO = false := by
        cases e : L.all artO
        · rfl
        · exact absurd ⟨hb, e⟩ h1
      exact (le_no v L w hL @hF hb hr).mono fun e w' ⟨h1, h2⟩ => ⟨_, h1, ⟨World.ownsRow_nil _ _ _ _, fun z hz => by simp at hz⟩, h2⟩
    · exact (le_big v L w hL (by omega)).mono fun e w' ⟨h1, h2⟩ => ⟨_, h1, ⟨World.ownsRow_nil _ _ _ _, fun z hz => by simp at hz⟩, h2⟩
theorem rle_all {v : Value} {L : List A11} {B : List Int} {er : Int} {w : World} (hL : ActAt w v L) (hF : AFit L) (h : encR L B er) : Calls Try.prog 9 #[v] w fun e w' => ∃ r, e = .returned (.tuple #[r, .int .i64 er]) ∧ OwnB w' w.heap.size r B ∧ Below w.heap.size w w' := by
  rcases h with ⟨h1, h2, rfl, rfl⟩ | ⟨h1, rfl, rfl⟩
  · exact (rle_yes v L w hL @hF h1 h2).mono fun e w' ⟨⟨r, h1, h2⟩, h3⟩ => ⟨r, h1, h2, h3⟩
  · by_cases hb : L.length ≤ 100
    · have hr : L.all artO = false := by
        cases e : L.all artO
        · rfl
        · exact absurd ⟨hb, e⟩ h1
      exact (rle_no v L w hL @hF hb hr).mono fun e w' ⟨h1, h2⟩ => ⟨_, h1, ⟨World.ownsRow_nil _ _ _ _, fun z hz => by simp at hz⟩, h2⟩
    · exact (rle_big v L w hL (by omega)).mono fun e w' ⟨h1, h2⟩ => ⟨_, h1, ⟨World.ownsRow_nil _ _ _ _, fun z hz => by simp at hz⟩, h2⟩

set_option maxRecDepth 100000 in
set_option maxHeartbeats 8000000 in
theorem ae_big (s : Option Addr) (sc n : Nat) (s2 : Option Addr) (sc2 m : Nat) (w : World) (h : (200 : Int) < (n : Int) ∨ ((¬ (200 : Int) < (n : Int)) ∧ (200 : Int) < (m : Int))) :
    Calls Try.prog 3 #[.slice s n sc, .slice s2 m sc2] w fun e w' => e = .returned (.bool true) ∧ Below w.heap.size w w' := by
  have aw := hide_ (fun w => awake13_any w)
  rcases h with h | ⟨h, h2⟩
  · skip
    go_enter Try.func3, Try.ntmps3
    go_wp2_with (go_at_call 7; refine (aw.out _).mono ?_; rintro e w3 ⟨rfl, b3⟩)
    go_ret
    exact ⟨rfl, b3⟩
  · skip
    go_enter Try.func3, Try.ntmps3
    go_wp2_with (go_at_call 7; refine (aw.out _).mono ?_; rintro e w3 ⟨rfl, b3⟩)
    go_ret
    exact ⟨rfl, b3⟩

set_option maxRecDepth 100000 in
set_option maxHeartbeats 8000000 in
theorem ae_gen (s : Option Addr) (sc n : Nat) (s2 : Option Addr) (sc2 m : Nat) (B : List Int) (er : Int) (z : Bool) (P1 P2 : List Int) (w : World) (g1 : ¬ (200 : Int) < (n : Int)) (g2 : ¬ (200 : Int) < (m : Int))
    (q1 : ∀ W, Below w.heap.size w W → Calls Try.prog 8 #[.slice s n sc] W fun e w' => ∃ r, e = .returned (.tuple #[r, .int .i64 er]) ∧ OwnB w' W.heap.size r B ∧ Below W.heap.size W w')
    (q2 : ∀ W, Below w.heap.size w W → Calls Try.prog 9 #[.slice s n sc] W fun e w' => ∃ r, e = .returned (.tuple #[r, .int .i64 er]) ∧ OwnB w' W.heap.size r B ∧ Below W.heap.size W w')
    (q3 : ∀ W, Below w.heap.size w W → Calls Try.prog 11 #[.slice s n sc, .slice s2 m sc2] W fun e w' => e = .returned (.bool z) ∧ Below W.heap.size W w')
    (q4 : ∀ W, Below w.heap.size w W → Calls Try.prog 12 #[.slice s n sc, .slice s2 m sc2] W fun e w' => e = .returned (.bool z) ∧ Below W.heap.size W w')
    (q5 : ∀ W, Below w.heap.size w W → Calls Try.prog 14 #[.slice s n sc] W fun e w' => ∃ r, e = .returned r ∧ w'.ownsRow W.heap.size 3 1 r P1.length (ints P1) ∧ Below W.heap.size W w')
    (q6 : ∀ W, Below w.heap.size w W → Calls Try.prog 15 #[.slice s n sc] W fun e w' => ∃ r, e = .returned r ∧ w'.ownsRow W.heap.size 3 1 r P1.length (ints P1) ∧ Below W.heap.size W w')
    (q7 : ∀ W, Below w.heap.size w W → Calls Try.prog 16 #[.slice s n sc] W fun e w' => ∃ r, e = .returned r ∧ w'.ownsRow W.heap.size 3 1 r P2.length (ints P2) ∧ Below W.heap.size W w')
    (q8 : ∀ W, Below w.heap.size w W → Calls Try.prog 17 #[.slice s n sc] W fun e w' => ∃ r, e = .returned r ∧ w'.ownsRow W.heap.size 3 1 r P2.length (ints P2) ∧ Below W.heap.size W w') :
    Calls Try.prog 3 #[.slice s n sc, .slice s2 m sc2] w fun e w' => e = .returned (.bool true) ∧ Below w.heap.size w w' := by
  have aw := hide_ (fun w => awake13_any w)
  have q1 := hide_ q1
  have q2 := hide_ q2
  have q3 := hide_ q3
  have q4 := hide_ q4
  have q5 := hide_ q5
  have q6 := hide_ q6
  have q7 := hide_ q7
  have q8 := hide_ q8
  have k0 := hide_ (Below.refl w.heap.size w)
  have heq : (er == er) = true := by simp
  have hz : (z == z) = true := by simp
  go_enter Try.func3, Try.ntmps3
  go_wp2_with (first
    | (go_at_call 8; refine (q1.out _ k0.out).mono ?_; rintro e w1 ⟨r1, rfl, h1, b1⟩; have k1 := hide_ b1; have h1 := hide_ h1; obtain ⟨a1, c1, e1⟩ := h1.out.bytes.short; subst e1)
    | (go_at_call 9; refine (q2.out _ k1.out).mono ?_; rintro e w2 ⟨r2, rfl, h2, b2⟩; have k2 := hide_ (k1.out.trans (b2.mono k1.out.size)); have qe := equal_any _ r2 B B w2 (h1.out.later b2).bytes h2.bytes; rw [beq_self_eq_true] at qe; have qe := hide_ qe; obtain ⟨a2, c2, e2⟩ := h2.bytes.short; subst e2; clear h2)
    | (go_at_call 10; refine qe.out.mono ?_; rintro e w3 ⟨rfl, b3⟩; have k3 := hide_ (k2.out.trans (b3.mono k2.out.size)))
    | (go_at_call 11; refine (q3.out _ k3.out).mono ?_; rintro e w4 ⟨rfl, b4⟩; have k4 := hide_ (k3.out.trans (b4.mono k3.out.size)))
    | (go_at_call 12; refine (q4.out _ k4.out).mono ?_; rintro e w5 ⟨rfl, b5⟩; have k5 := hide_ (k4.out.trans (b5.mono k4.out.size)))
    | (go_at_call 14; refine (q5.out _ k5.out).mono ?_; rintro e w6 ⟨r6, rfl, h6, b6⟩; have k6 := hide_ (k5.out.trans (b6.mono k5.out.size)); have h6 := hide_ h6; obtain ⟨a6, c6, e6⟩ := ownr_form h6.out; subst e6)
    | (go_at_call 15; refine (q6.out _ k6.out).mono ?_; rintro e w7 ⟨r7, rfl, h7, b7⟩; have k7 := hide_ (k6.out.trans (b7.mono k6.out.size)); have qi := hide_ (pequal_any _ r7 P1 w7 ((Cells.ofOwn h6.out).later b7) (Cells.ofOwn h7)); obtain ⟨a7, c7, e7⟩ := ownr_form h7; subst e7; clear h7)
    | (go_at_call 16; refine (q7.out _ k8.out).mono ?_; rintro e w9 ⟨r9, rfl, h9, b9⟩; have k9 := hide_ (k8.out.trans (b9.mono k8.out.size)); have h9 := hide_ h9; obtain ⟨a9, c9, e9⟩ := ownr_form h9.out; subst e9)
    | (go_at_call 17; refine (q8.out _ k9.out).mono ?_; rintro e w10 ⟨r10, rfl, h10, b10⟩; have k10 := hide_ (k9.out.trans (b10.mono k9.out.size)); have qj := hide_ (pequal_any _ r10 P2 w10 ((Cells.ofOwn h9.out).later b10) (Cells.ofOwn h10)); obtain ⟨a10, c10, e10⟩ := ownr_form h10; subst e10; clear h10)
    | (go_at_call 13; first | (refine qj.out.mono ?_; rintro e w11 ⟨rfl, b11⟩; have k11 := hide_ (k10.out.trans (b11.mono k10.out.size))) | (refine qi.out.mono ?_; rintro e w8 ⟨rfl, b8⟩; have k8 := hide_ (k7.out.trans (b8.mono k7.out.size))))
    | (go_at_call 7; refine (aw.out _).mono ?_; rintro e w12 ⟨rfl, b12⟩))
  go_ret
  exact ⟨by first | rfl | simp, k11.out.trans (b12.mono k11.out.size)⟩

theorem actsEncode_walk (v u : Value) (L K : List A11) (w : World) (hL : ActAt w v L) (hF : AFit L) (hK : ActAt w u K) :
    Calls Try.prog 3 #[v, u] w fun e w' => e = .returned (.bool true) ∧ Below w.heap.size w w' := by
  obtain ⟨s, sc, rfl, hl⟩ := hL.slice
  obtain ⟨s2, sc2, rfl, hl2⟩ := hK.slice
  by_cases g1 : (200 : Int) < (L.length : Int)
  · exact ae_big s sc L.length s2 sc2 K.length w (.inl g1)
  by_cases g2 : (200 : Int) < (K.length : Int)
  · exact ae_big s sc L.length s2 sc2 K.length w (.inr ⟨g1, g2⟩)
  obtain ⟨B, er, he⟩ := encR_some L
  exact ae_gen s sc L.length s2 sc2 K.length B er (sameL L K) (portsL L) (groupsL L) w g1 g2 (fun W hW => le_all (hL.later hW) @hF he) (fun W hW => rle_all (hL.later hW) @hF he) (fun W hW => lsame_any _ _ L K W (hL.later hW) (hK.later hW)) (fun W hW => rlsame_any _ _ L K W (hL.later hW) (hK.later hW))
    (fun W hW => lports_any _ L W (hL.later hW) (by omega)) (fun W hW => rlports_any _ L W (hL.later hW) (by omega)) (fun W hW => lgroups_any _ L W (hL.later hW) (by omega)) (fun W hW => rlgroups_any _ L W (hL.later hW) (by omega))
end

section
open Go Go.RowKit
set_option linter.unusedVariables false
set_option linter.unusedSimpArgs false

set_option maxRecDepth 100000 in
set_option maxHeartbeats 8000000 in
theorem acd_gen (ao : Option Addr) (cap : Nat) (l : List Int) (L : List A11) (fx : Bool) (ft fc : Int) (w : World) (g1 : ¬ (4000 : Int) < (l.length : Int))
    (q1 : ∀ W, Below w.heap.size w W → Calls Try.prog 18 #[.slice ao l.length cap] W fun e w' => (∃ r, e = .returned (.tuple #[r, .agg #[.bool fx, .int .i64 ft, .int .i64 fc]]) ∧ ActAt w' r L) ∧ Below W.heap.size W w')
    (q2 : ∀ W, Below w.heap.size w W → Calls Try.prog 19 #[.slice ao l.length cap] W fun e w' => (∃ r, e = .returned (.tuple #[r, .agg #[.bool fx, .int .i64 ft, .int .i64 fc]]) ∧ ActAt w' r L) ∧ Below W.heap.size W w') :
    Calls Try.prog 4 #[.slice ao l.length cap] w fun e w' => e = .returned (.bool true) ∧ Below w.heap.size w w' := by
  have aw := hide_ (fun w => awake13_any w)
  have q1 := hide_ q1
  have q2 := hide_ q2
  have qs : Hid (∀ r u W, ActAt W r L → ActAt W u L → Calls Try.prog 12 #[r, u] W fun e w' => e = .returned (.bool true) ∧ Below W.heap.size W w') := hide_ (fun r u W h1 h2 => by
    have := rlsame_any r u L L W h1 h2
    rw [sameL_refl] at this
    exact this)
  have k0 := hide_ (Below.refl w.heap.size w)
  go_enter Try.func4, Try.ntmps4
  go_wp2_with (first
    | (go_at_call 18; refine (q1.out _ k0.out).mono ?_; rintro e w1 ⟨⟨r1, rfl, h1⟩, b1⟩; have k1 := hide_ (b1.trans ((below1 w1 (.cells #[.bool fx, .int .i64 ft, .int .i64 fc] 34)).mono b1.size)); have h1 := hide_ (h1.later (below1 w1 (.cells #[.bool fx, .int .i64 ft, .int .i64 fc] 34))); have G1 := hide_ (AB.at0 w1 34 [.bool fx, .int .i64 ft, .int .i64 fc]))
    | (go_at_call 19; refine (q2.out _ k1.out).mono ?_; rintro e w2 ⟨⟨r2, rfl, h2⟩, b2⟩; have j2 : Below (w1.alloc (.cells #[.bool fx, .int .i64 ft, .int .i64 fc] 34)).heap.size (w1.alloc (.cells #[.bool fx, .int .i64 ft, .int .i64 fc] 34)) (w2.alloc (.cells #[.bool fx, .int .i64 ft, .int .i64 fc] 34)) := b2.trans ((below1 w2 (.cells #[.bool fx, .int .i64 ft, .int .i64 fc] 34)).mono b2.size); have k2 := hide_ (k1.out.trans (j2.mono k1.out.size)); have h1 := hide_ (h1.out.later j2); have h2 := hide_ (h2.later (below1 w2 (.cells #[.bool fx, .int .i64 ft, .int .i64 fc] 34))); have G1 := hide_ (G1.out.later j2); have G2 := hide_ (AB.at0 w2 34 [.bool fx, .int .i64 ft, .int .i64 fc]))
    | (go_at_call 12; refine (qs.out _ _ _ h1.out h2.out).mono ?_; rintro e w3 ⟨rfl, b3⟩; have k3 := hide_ (k2.out.trans (b3.mono k2.out.size)); obtain ⟨f0, f1, f2, -⟩ := (G1.out.later b3).three; obtain ⟨t0, t1, t2, -⟩ := (G2.out.later b3).three)
    | (go_at_call 7; refine (aw.out _).mono ?_; rintro e w8 ⟨rfl, b8⟩))
  go_ret
  exact ⟨by first | rfl | simp, k3.out.trans (b8.mono k3.out.size)⟩
theorem nnA {e : Ending} {w : World} {f : Value} (h : e = .returned (.tuple #[.slice none 0 0, f])) : ∃ r, e = .returned (.tuple #[r, f]) ∧ ActAt w r [] := ⟨_, h, ActAt.nil w⟩

set_option maxRecDepth 100000 in
set_option maxHeartbeats 8000000 in
theorem actsDecode_walk (v : Value) (l : List Int) (w : World) (hB : Bytes w v l) :
    Calls Try.prog 4 #[v] w fun e w' => e = .returned (.bool true) ∧ Below w.heap.size w w' := by
  have hiB := hB.isB_
  obtain ⟨ao, cap, rfl, h1⟩ := hB
  have hB : Bytes w (.slice ao l.length cap) l := ⟨ao, cap, rfl, h1⟩
  by_cases g1 : (4000 : Int) < (l.length : Int)
  · clear hB h1
    have aw := hide_ (fun w => awake13_any w)
    go_enter Try.func4, Try.ntmps4
    go_wp2_with (go_at_call 7; refine (aw.out _).mono ?_; rintro e w3 ⟨rfl, b3⟩)
    go_ret
    exact ⟨rfl, b3⟩
  · rcases acts_all l.length l (Nat.le_refl _) hiB with ⟨L, h1, h2⟩ | ⟨z, h1, h2⟩
    · by_cases hL : L.length ≤ 100
      · exact acd_gen ao cap l L false 0 0 w g1 (fun W hW => (ad_ok _ l L W (hB.later hW) h1 hL).mono fun e w' ⟨⟨r, e1, o1⟩, b1⟩ => ⟨⟨r, e1, ActAt.ofOwn o1⟩, b1⟩) (fun W hW => (rad_ok _ l L W (hB.later hW) (by omega) h2 hL).mono fun e w' ⟨⟨r, e1, o1⟩, b1⟩ => ⟨⟨r, e1, ActAt.ofOwn o1⟩, b1⟩)
      · exact acd_gen ao cap l [] true 2 7 w g1 (fun W hW => (ad_many _ l L W (hB.later hW) h1 (by omega)).mono fun e w' h => ⟨nnA h.1, h.2⟩) (fun W hW => (rad_many _ l L W (hB.later hW) (by omega) h2 (by omega)).mono fun e w' h => ⟨nnA h.1, h.2⟩)
    · exact acd_gen ao cap l [] true 2 z w g1 (fun W hW => (ad_bad _ l z W (hB.later hW) h1).mono fun e w' h => ⟨nnA h.1, h.2⟩) (fun W hW => (rad_bad _ l z W (hB.later hW) (by omega) h2).mono fun e w' h => ⟨nnA h.1, h.2⟩)
end

end Go.Proofs.Ytadgppedodlgmaa
