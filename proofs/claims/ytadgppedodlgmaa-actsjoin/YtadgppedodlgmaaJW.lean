import Derived.Test.YtadgppedodlgmaaJS
import Derived.Test.YtadgppedodlgmaaJQ
import Derived.Test.YtadgppedodlgmaaJA
import Derived.Deep.RegionHeld3
import Derived.Deep.RegionWith
import Derived.Deep.MidRow
import Derived.Deep.Cut
import Derived.Test.YtadgppedodlgmaaJH
import Derived.Handed
import Derived.SizedLaws
namespace Go.Proofs.Ytadgppedodlgmaa
section
open Go Go.RowKit
set_option linter.unusedVariables false
set_option linter.unusedSimpArgs false

set_option maxRecDepth 100000 in
set_option maxHeartbeats 8000000 in
theorem aj_ny (s : Option Addr) (sc : Nat) (L : List A11) (s2 : Option Addr) (sc2 : Nat) (K : List A11) (B2 : List Int) (w : World) (hL : ActAt w (.slice s L.length sc) L) (hK : ActAt w (.slice s2 K.length sc2) K) (g1 : L.length + K.length ≤ 100)
    (q1 : ∀ W, Below w.heap.size w W → Calls Try.prog 8 #[.slice s L.length sc] W fun e w' => e = .returned (.tuple #[.slice none 0 0, .int .i64 1]) ∧ Below W.heap.size W w')
    (q2 : ∀ W, Below w.heap.size w W → Calls Try.prog 8 #[.slice s2 K.length sc2] W fun e w' => ∃ r, e = .returned (.tuple #[r, .int .i64 0]) ∧ OwnB w' W.heap.size r B2 ∧ Below W.heap.size W w')
    (q3 : ∀ v W, ActAt W v (L ++ K) → Calls Try.prog 8 #[v] W fun e w' => e = .returned (.tuple #[.slice none 0 0, .int .i64 1]) ∧ Below W.heap.size W w') (qw : ∀ W, Below w.heap.size w W → Calls Try.prog 21 #[.slice s L.length sc, (.func (.func 22) #[] #[])] W fun e w' => e = .returned (.bool true) ∧ Below W.heap.size W w') :
    Calls Try.prog 6 #[.slice s L.length sc, .slice s2 K.length sc2] w fun e w' => e = .returned (.bool true) ∧ Below w.heap.size w w' := by
  have aw := hide_ (fun w => awake13_any w)
  have HL := hide_ hL
  have HK := hide_ hK
  obtain ⟨i0, hi0, hz0, hz1, hz2⟩ := info_parts infoAc
  have HI : Hid (Try.prog.info? 46 = some i0 ∧ i0.zero = some (.agg #[.int .i64 0, .int .i64 0, .int .i64 0, .int .i64 0, .int .i64 0, .int .i64 0, .bool false, .int .u64 0, .int .u64 0, .int .u64 0, .int .u64 0]) ∧ i0.size = 11 ∧ i0.bytes = 88) := ⟨hi0, hz0, hz1, hz2⟩
  clear hi0 hz0 hz1 hz2
  obtain ⟨i8, hi0, hz0, hz1, hz2⟩ := info_parts info8g
  have HI8 : Hid (Try.prog.info? 5 = some i8 ∧ i8.zero = some (.int .u8 0) ∧ i8.size = 1 ∧ i8.bytes = 1) := ⟨hi0, hz0, hz1, hz2⟩
  clear hi0 hz0 hz1 hz2
  have q1 := hide_ q1
  have q2 := hide_ q2
  have q3 := hide_ q3
  have qw := hide_ qw
  have k0 := hide_ (Below.refl w.heap.size w)
  have gs : IntKind.i64.wrap ((L.length : Int) + (K.length : Int)) = (L.length : Int) + (K.length : Int) := by rw [IntKind.wrap_i64]; omega
  have g2 : ¬ (100 : Int) < (L.length : Int) + (K.length : Int) := by omega
  skip
  clear hL hK
  go_enter Try.func6, Try.ntmps6
  go_wp2_with (first
    | (go_at_call 8; first | (refine (q3.out _ _ hC.out).mono ?_; rintro e w5 ⟨rfl, b5⟩; have k5 := hide_ (k4.out.trans (b5.mono k4.out.size))) | (refine (q2.out _ k1.out).mono ?_; rintro e w2 ⟨r2, rfl, h2, b2⟩; have k2 := hide_ (k1.out.trans (b2.mono k1.out.size)); have h2 := hide_ h2; obtain ⟨a2, c2, e2⟩ := h2.out.bytes.short; subst e2) | (refine (q1.out _ k0.out).mono ?_; rintro e w1 ⟨rfl, b1⟩; have k1 := hide_ b1))
    | (go_at_call 20; refine (aclone_any _ L _ (HL.out.later k2.out) (by omega)).mono ?_; rintro e w3 ⟨r3, rfl, o3, b3⟩; have k3 := hide_ (k2.out.trans (b3.mono k2.out.size)); have o3 := hide_ o3; have HK3 := hide_ (HK.out.later k3.out); obtain ⟨a3, c3, e3⟩ := ownr_form o3.out; subst e3)
    | (at_builtin; refine wpList_append_act rfl (.tmp 30) (.tmp 31) 22 rfl w2.heap.size i0 Try.underlying22 HI.out.1 HI.out.2.1 HI.out.2.2.1 HI.out.2.2.2 _ L.length (ads L) (by first | rfl | simp [Act.eval, Act.put]) o3.out _ K (by first | rfl | simp [Act.eval, Act.put]) HK3.out (by omega) b3.size ?_; intro v4 w4 own4 g4; have j4 := hide_ (b3.trans (below_grown g4 w2.heap.size b3.size (fun k hk => (o3.out.lt k hk).1))); have k4 := hide_ (k2.out.trans (j4.out.mono k2.out.size)); have hC := hide_ (show ActAt w4 v4 (L ++ K) from ActAt.ofOwn (base := w2.heap.size) (e := 46) (by rw [ads_app, List.length_append]; exact own4)); obtain ⟨va, vc, ve⟩ := ownr_form own4; subst ve; clear own4 g4)
    | (go_at_call 21; refine (qw.out _ k5.out).mono ?_; rintro e w7 ⟨rfl, b7⟩; have k8 := hide_ (k5.out.trans (b7.mono k5.out.size)))
    | (go_at_call 7; refine (aw.out _).mono ?_; rintro e w9 ⟨rfl, b9⟩))
  go_ret
  exact ⟨by first | rfl | simp, k8.out.trans (b9.mono k8.out.size)⟩
end

section
open Go Go.RowKit
set_option linter.unusedVariables false
set_option linter.unusedSimpArgs false

set_option maxRecDepth 100000 in
set_option maxHeartbeats 8000000 in
theorem aj_nn (s : Option Addr) (sc : Nat) (L : List A11) (s2 : Option Addr) (sc2 : Nat) (K : List A11) (w : World) (hL : ActAt w (.slice s L.length sc) L) (hK : ActAt w (.slice s2 K.length sc2) K) (g1 : L.length + K.length ≤ 100)
    (q1 : ∀ W, Below w.heap.size w W → Calls Try.prog 8 #[.slice s L.length sc] W fun e w' => e = .returned (.tuple #[.slice none 0 0, .int .i64 1]) ∧ Below W.heap.size W w')
    (q2 : ∀ W, Below w.heap.size w W → Calls Try.prog 8 #[.slice s2 K.length sc2] W fun e w' => e = .returned (.tuple #[.slice none 0 0, .int .i64 1]) ∧ Below W.heap.size W w')
    (q3 : ∀ v W, ActAt W v (L ++ K) → Calls Try.prog 8 #[v] W fun e w' => e = .returned (.tuple #[.slice none 0 0, .int .i64 1]) ∧ Below W.heap.size W w') (qw : ∀ W, Below w.heap.size w W → Calls Try.prog 21 #[.slice s L.length sc, (.func (.func 22) #[] #[])] W fun e w' => e = .returned (.bool true) ∧ Below W.heap.size W w') :
    Calls Try.prog 6 #[.slice s L.length sc, .slice s2 K.length sc2] w fun e w' => e = .returned (.bool true) ∧ Below w.heap.size w w' := by
  have aw := hide_ (fun w => awake13_any w)
  have HL := hide_ hL
  have HK := hide_ hK
  obtain ⟨i0, hi0, hz0, hz1, hz2⟩ := info_parts infoAc
  have HI : Hid (Try.prog.info? 46 = some i0 ∧ i0.zero = some (.agg #[.int .i64 0, .int .i64 0, .int .i64 0, .int .i64 0, .int .i64 0, .int .i64 0, .bool false, .int .u64 0, .int .u64 0, .int .u64 0, .int .u64 0]) ∧ i0.size = 11 ∧ i0.bytes = 88) := ⟨hi0, hz0, hz1, hz2⟩
  clear hi0 hz0 hz1 hz2
  obtain ⟨i8, hi0, hz0, hz1, hz2⟩ := info_parts info8g
  have HI8 : Hid (Try.prog.info? 5 = some i8 ∧ i8.zero = some (.int .u8 0) ∧ i8.size = 1 ∧ i8.bytes = 1) := ⟨hi0, hz0, hz1, hz2⟩
  clear hi0 hz0 hz1 hz2
  have q1 := hide_ q1
  have q2 := hide_ q2
  have q3 := hide_ q3
  have qw := hide_ qw
  have k0 := hide_ (Below.refl w.heap.size w)
  have gs : IntKind.i64.wrap ((L.length : Int) + (K.length : Int)) = (L.length : Int) + (K.length : Int) := by rw [IntKind.wrap_i64]; omega
  have g2 : ¬ (100 : Int) < (L.length : Int) + (K.length : Int) := by omega
  skip
  clear hL hK
  go_enter Try.func6, Try.ntmps6
  go_wp2_with (first
    | (go_at_call 8; first | (refine (q3.out _ _ hC.out).mono ?_; rintro e w5 ⟨rfl, b5⟩; have k5 := hide_ (k4.out.trans (b5.mono k4.out.size))) | (refine (q2.out _ k1.out).mono ?_; rintro e w2 ⟨rfl, b2⟩; have k2 := hide_ (k1.out.trans (b2.mono k1.out.size))) | (refine (q1.out _ k0.out).mono ?_; rintro e w1 ⟨rfl, b1⟩; have k1 := hide_ b1))
    | (go_at_call 20; refine (aclone_any _ L _ (HL.out.later k2.out) (by omega)).mono ?_; rintro e w3 ⟨r3, rfl, o3, b3⟩; have k3 := hide_ (k2.out.trans (b3.mono k2.out.size)); have o3 := hide_ o3; have HK3 := hide_ (HK.out.later k3.out); obtain ⟨a3, c3, e3⟩ := ownr_form o3.out; subst e3)
    | (at_builtin; refine wpList_append_act rfl (.tmp 30) (.tmp 31) 22 rfl w2.heap.size i0 Try.underlying22 HI.out.1 HI.out.2.1 HI.out.2.2.1 HI.out.2.2.2 _ L.length (ads L) (by first | rfl | simp [Act.eval, Act.put]) o3.out _ K (by first | rfl | simp [Act.eval, Act.put]) HK3.out (by omega) b3.size ?_; intro v4 w4 own4 g4; have j4 := hide_ (b3.trans (below_grown g4 w2.heap.size b3.size (fun k hk => (o3.out.lt k hk).1))); have k4 := hide_ (k2.out.trans (j4.out.mono k2.out.size)); have hC := hide_ (show ActAt w4 v4 (L ++ K) from ActAt.ofOwn (base := w2.heap.size) (e := 46) (by rw [ads_app, List.length_append]; exact own4)); obtain ⟨va, vc, ve⟩ := ownr_form own4; subst ve; clear own4 g4)
    | (go_at_call 21; refine (qw.out _ k5.out).mono ?_; rintro e w7 ⟨rfl, b7⟩; have k8 := hide_ (k5.out.trans (b7.mono k5.out.size)))
    | (go_at_call 7; refine (aw.out _).mono ?_; rintro e w9 ⟨rfl, b9⟩))
  go_ret
  exact ⟨by first | rfl | simp, k8.out.trans (b9.mono k8.out.size)⟩
end

section
open Go Go.RowKit
set_option linter.unusedVariables false
set_option linter.unusedSimpArgs false

set_option maxRecDepth 100000 in
set_option maxHeartbeats 8000000 in
theorem aj_yn (s : Option Addr) (sc : Nat) (L : List A11) (s2 : Option Addr) (sc2 : Nat) (K : List A11) (B1 : List Int) (w : World) (hL : ActAt w (.slice s L.length sc) L) (hK : ActAt w (.slice s2 K.length sc2) K) (g1 : L.length + K.length ≤ 100)
    (q1 : ∀ W, Below w.heap.size w W → Calls Try.prog 8 #[.slice s L.length sc] W fun e w' => ∃ r, e = .returned (.tuple #[r, .int .i64 0]) ∧ OwnB w' W.heap.size r B1 ∧ Below W.heap.size W w')
    (q2 : ∀ W, Below w.heap.size w W → Calls Try.prog 8 #[.slice s2 K.length sc2] W fun e w' => e = .returned (.tuple #[.slice none 0 0, .int .i64 1]) ∧ Below W.heap.size W w')
    (q3 : ∀ v W, ActAt W v (L ++ K) → Calls Try.prog 8 #[v] W fun e w' => e = .returned (.tuple #[.slice none 0 0, .int .i64 1]) ∧ Below W.heap.size W w') (qw : ∀ W, Below w.heap.size w W → Calls Try.prog 21 #[.slice s L.length sc, (.func (.func 22) #[] #[])] W fun e w' => e = .returned (.bool false) ∧ Below W.heap.size W w') (qv : ∀ W, Below w.heap.size w W → Calls Try.prog 21 #[.slice s2 K.length sc2, (.func (.func 22) #[] #[])] W fun e w' => e = .returned (.bool true) ∧ Below W.heap.size W w') :
    Calls Try.prog 6 #[.slice s L.length sc, .slice s2 K.length sc2] w fun e w' => e = .returned (.bool true) ∧ Below w.heap.size w w' := by
  have aw := hide_ (fun w => awake13_any w)
  have HL := hide_ hL
  have HK := hide_ hK
  obtain ⟨i0, hi0, hz0, hz1, hz2⟩ := info_parts infoAc
  have HI : Hid (Try.prog.info? 46 = some i0 ∧ i0.zero = some (.agg #[.int .i64 0, .int .i64 0, .int .i64 0, .int .i64 0, .int .i64 0, .int .i64 0, .bool false, .int .u64 0, .int .u64 0, .int .u64 0, .int .u64 0]) ∧ i0.size = 11 ∧ i0.bytes = 88) := ⟨hi0, hz0, hz1, hz2⟩
  clear hi0 hz0 hz1 hz2
  obtain ⟨i8, hi0, hz0, hz1, hz2⟩ := info_parts info8g
  have HI8 : Hid (Try.prog.info? 5 = some i8 ∧ i8.zero = some (.int .u8 0) ∧ i8.size = 1 ∧ i8.bytes = 1) := ⟨hi0, hz0, hz1, hz2⟩
  clear hi0 hz0 hz1 hz2
  have q1 := hide_ q1
  have q2 := hide_ q2
  have q3 := hide_ q3
  have qw := hide_ qw
  have qv := hide_ qv
  have k0 := hide_ (Below.refl w.heap.size w)
  have gs : IntKind.i64.wrap ((L.length : Int) + (K.length : Int)) = (L.length : Int) + (K.length : Int) := by rw [IntKind.wrap_i64]; omega
  have g2 : ¬ (100 : Int) < (L.length : Int) + (K.length : Int) := by omega
  skip
  clear hL hK
  go_enter Try.func6, Try.ntmps6
  go_wp2_with (first
    | (go_at_call 8; first | (refine (q3.out _ _ hC.out).mono ?_; rintro e w5 ⟨rfl, b5⟩; have k5 := hide_ (k4.out.trans (b5.mono k4.out.size))) | (refine (q2.out _ k1.out).mono ?_; rintro e w2 ⟨rfl, b2⟩; have k2 := hide_ (k1.out.trans (b2.mono k1.out.size))) | (refine (q1.out _ k0.out).mono ?_; rintro e w1 ⟨r1, rfl, h1, b1⟩; have k1 := hide_ b1; have h1 := hide_ h1; obtain ⟨a1, c1, e1⟩ := h1.out.bytes.short; subst e1))
    | (go_at_call 20; refine (aclone_any _ L _ (HL.out.later k2.out) (by omega)).mono ?_; rintro e w3 ⟨r3, rfl, o3, b3⟩; have k3 := hide_ (k2.out.trans (b3.mono k2.out.size)); have o3 := hide_ o3; have HK3 := hide_ (HK.out.later k3.out); obtain ⟨a3, c3, e3⟩ := ownr_form o3.out; subst e3)
    | (at_builtin; refine wpList_append_act rfl (.tmp 30) (.tmp 31) 22 rfl w2.heap.size i0 Try.underlying22 HI.out.1 HI.out.2.1 HI.out.2.2.1 HI.out.2.2.2 _ L.length (ads L) (by first | rfl | simp [Act.eval, Act.put]) o3.out _ K (by first | rfl | simp [Act.eval, Act.put]) HK3.out (by omega) b3.size ?_; intro v4 w4 own4 g4; have j4 := hide_ (b3.trans (below_grown g4 w2.heap.size b3.size (fun k hk => (o3.out.lt k hk).1))); have k4 := hide_ (k2.out.trans (j4.out.mono k2.out.size)); have hC := hide_ (show ActAt w4 v4 (L ++ K) from ActAt.ofOwn (base := w2.heap.size) (e := 46) (by rw [ads_app, List.length_append]; exact own4)); obtain ⟨va, vc, ve⟩ := ownr_form own4; subst ve; clear own4 g4)
    | (go_at_call 21; first | (refine (qv.out _ kw.out).mono ?_; rintro e w7 ⟨rfl, b7⟩; have k8 := hide_ (kw.out.trans (b7.mono kw.out.size))) | (refine (qw.out _ k5.out).mono ?_; rintro e w6 ⟨rfl, b6⟩; have kw := hide_ (k5.out.trans (b6.mono k5.out.size))))
    | (go_at_call 7; refine (aw.out _).mono ?_; rintro e w9 ⟨rfl, b9⟩))
  go_ret
  exact ⟨by first | rfl | simp, k8.out.trans (b9.mono k8.out.size)⟩
end

section
open Go Go.RowKit
set_option linter.unusedVariables false
set_option linter.unusedSimpArgs false

theorem wpList_append_ownBg {P : Program} {w : World} {ops : Array Oper} {rest : List Oper} {o : Oper} {a : Act} {Q : Exit → Act → World → Prop} (s x : Operand) (t : TypeId)
    (ho : o.op = .call { callee := .builtin .append, args := #[s, x], argTypes := #[t, t] })
    (base : Nat) (e : TypeId) (i : TypeInfo) (ht : P.underlying t = some (.slice e)) (hi : P.info? e = some i) (hz : i.zero = some (.int .u8 0))
    (hsize : i.size = 1) (hby : i.bytes = 1)
    (v : Value) (n : Nat) (xs : List Value) (hs : a.eval s = v) (hown : w.ownsRow base e 1 v n xs)
    (u : Value) (l : List Int) (hx : a.eval x = u) (hB : Bytes w u l) (hw : Region.wanted o (yielded ops a.tmps) = true)
    (h63 : n + l.length ≤ 140737488355328) (hbase : base ≤ w.heap.size)
    (h : ∀ v' w', w'.ownsRow base e 1 v' (n + l.length) (xs ++ u8s l) → w.grownBy w' v.ownBlock → wpList P ops Q rest (a.put o.dst v') w') : wpList P ops Q (o :: rest) a w :=
  wpList_wanted hw fun K hK => wp_append_ownB s x t ho base e i ht hi hz hsize hby v n xs hs hown u l hx hB h63 hbase (fun v' w' h1 h2 => hK _ _ (h v' w' h1 h2))

set_option maxRecDepth 100000 in
set_option maxHeartbeats 8000000 in
theorem aj_yy (s : Option Addr) (sc : Nat) (L : List A11) (s2 : Option Addr) (sc2 : Nat) (K : List A11) (B1 B2 B3 : List Int) (w : World) (hL : ActAt w (.slice s L.length sc) L) (hK : ActAt w (.slice s2 K.length sc2) K) (g1 : L.length + K.length ≤ 100) (hB : B1.length ≤ 100000 ∧ B2.length ≤ 100000)
    (q1 : ∀ W, Below w.heap.size w W → Calls Try.prog 8 #[.slice s L.length sc] W fun e w' => ∃ r, e = .returned (.tuple #[r, .int .i64 0]) ∧ OwnB w' W.heap.size r B1 ∧ Below W.heap.size W w')
    (q2 : ∀ W, Below w.heap.size w W → Calls Try.prog 8 #[.slice s2 K.length sc2] W fun e w' => ∃ r, e = .returned (.tuple #[r, .int .i64 0]) ∧ OwnB w' W.heap.size r B2 ∧ Below W.heap.size W w')
    (q3 : ∀ v W, ActAt W v (L ++ K) → Calls Try.prog 8 #[v] W fun e w' => ∃ r, e = .returned (.tuple #[r, .int .i64 0]) ∧ OwnB w' W.heap.size r B3 ∧ Below W.heap.size W w') (h3 : B3 = B1 ++ B2) :
    Calls Try.prog 6 #[.slice s L.length sc, .slice s2 K.length sc2] w fun e w' => e = .returned (.bool true) ∧ Below w.heap.size w w' := by
  have aw := hide_ (fun w => awake13_any w)
  have HL := hide_ hL
  have HK := hide_ hK
  obtain ⟨i0, hi0, hz0, hz1, hz2⟩ := info_parts infoAc
  have HI : Hid (Try.prog.info? 46 = some i0 ∧ i0.zero = some (.agg #[.int .i64 0, .int .i64 0, .int .i64 0, .int .i64 0, .int .i64 0, .int .i64 0, .bool false, .int .u64 0, .int .u64 0, .int .u64 0, .int .u64 0]) ∧ i0.size = 11 ∧ i0.bytes = 88) := ⟨hi0, hz0, hz1, hz2⟩
  clear hi0 hz0 hz1 hz2
  obtain ⟨i8, hi0, hz0, hz1, hz2⟩ := info_parts info8g
  have HI8 : Hid (Try.prog.info? 5 = some i8 ∧ i8.zero = some (.int .u8 0) ∧ i8.size = 1 ∧ i8.bytes = 1) := ⟨hi0, hz0, hz1, hz2⟩
  clear hi0 hz0 hz1 hz2
  have q1 := hide_ q1
  have q2 := hide_ q2
  have q3 := hide_ q3
  have k0 := hide_ (Below.refl w.heap.size w)
  have gs : IntKind.i64.wrap ((L.length : Int) + (K.length : Int)) = (L.length : Int) + (K.length : Int) := by rw [IntKind.wrap_i64]; omega
  have g2 : ¬ (100 : Int) < (L.length : Int) + (K.length : Int) := by omega
  have HB3 := hide_ h3
  clear hL hK h3
  go_enter Try.func6, Try.ntmps6
  go_wp2_with (first
    | (go_at_call 8; first | (refine (q3.out _ _ hC.out).mono ?_; rintro e w5 ⟨r5, rfl, h5, b5⟩; have k5 := hide_ (k4.out.trans (b5.mono k4.out.size)); have h5 := hide_ h5; have j5 := hide_ (j4.out.trans (b5.mono j4.out.size)); have h1 := hide_ (h1.out.later j5.out); obtain ⟨a5, c5, e5⟩ := h5.out.bytes.short; subst e5) | (refine (q2.out _ k1.out).mono ?_; rintro e w2 ⟨r2, rfl, h2, b2⟩; have k2 := hide_ (k1.out.trans (b2.mono k1.out.size)); have h2 := hide_ h2; obtain ⟨a2, c2, e2⟩ := h2.out.bytes.short; subst e2; have h1 := hide_ (h1.out.later b2)) | (refine (q1.out _ k0.out).mono ?_; rintro e w1 ⟨r1, rfl, h1, b1⟩; have k1 := hide_ b1; have h1 := hide_ h1; obtain ⟨a1, c1, e1⟩ := h1.out.bytes.short; subst e1))
    | (go_at_call 20; refine (aclone_any _ L _ (HL.out.later k2.out) (by omega)).mono ?_; rintro e w3 ⟨r3, rfl, o3, b3⟩; have k3 := hide_ (k2.out.trans (b3.mono k2.out.size)); have o3 := hide_ o3; have HK3 := hide_ (HK.out.later k3.out); obtain ⟨a3, c3, e3⟩ := ownr_form o3.out; subst e3)
    | (at_builtin; refine wpList_append_act rfl (.tmp 30) (.tmp 31) 22 rfl w2.heap.size i0 Try.underlying22 HI.out.1 HI.out.2.1 HI.out.2.2.1 HI.out.2.2.2 _ L.length (ads L) (by first | rfl | simp [Act.eval, Act.put]) o3.out _ K (by first | rfl | simp [Act.eval, Act.put]) HK3.out (by omega) b3.size ?_; intro v4 w4 own4 g4; have j4 := hide_ (b3.trans (below_grown g4 w2.heap.size b3.size (fun k hk => (o3.out.lt k hk).1))); have k4 := hide_ (k2.out.trans (j4.out.mono k2.out.size)); have hC := hide_ (show ActAt w4 v4 (L ++ K) from ActAt.ofOwn (base := w2.heap.size) (e := 46) (by rw [ads_app, List.length_append]; exact own4)); obtain ⟨va, vc, ve⟩ := ownr_form own4; subst ve; clear own4 g4)
    | (go_at_call 23; refine (clone_any _ B1 _ (h1.out.bytes) (by omega)).mono ?_; rintro e w6 ⟨r6, rfl, o6, b6⟩; have k6 := hide_ (k5.out.trans (b6.mono k5.out.size)); have O6 := hide_ (show OwnB w6 w5.heap.size r6 B1 from ⟨o6, h1.out.2⟩); have h2c := hide_ ((h2.out.later j5.out).later b6); have h5c := hide_ (h5.out.later b6); obtain ⟨a6, c6, e6⟩ := ownr_form o6; subst e6; clear o6)
    | (at_builtin; refine wpList_append_ownBg (.tmp 65) (.tmp 66) 24 rfl w5.heap.size 5 i8 Try.underlying24 HI8.out.1 HI8.out.2.1 HI8.out.2.2.1 HI8.out.2.2.2 _ _ _ (by first | rfl | simp [Act.eval, Act.put]) O6.out.1 _ B2 (by first | rfl | simp [Act.eval, Act.put]) h2c.out.bytes (by first | rfl | (simp [Region.wanted]; rfl)) (by omega) b6.size ?_; intro v7 w7 own7 g7; have O7 := hide_ (show OwnB w7 w5.heap.size v7 B3 by rw [HB3.out]; exact O6.out.grow h2c.out.2 own7); have b7 := hide_ (O6.out.growB g7 (Nat.le_refl _) b6.size); have b57 := hide_ (b6.trans b7.out); have k7 := hide_ (k5.out.trans (b57.out.mono k5.out.size)); have qe := equal_any (.slice a5 B3.length c5) v7 B3 B3 w7 (h5.out.later b57.out).bytes O7.out.bytes; rw [beq_self_eq_true] at qe; have qe := hide_ qe; obtain ⟨va7, vc7, ve7⟩ := ownr_form O7.out.1; subst ve7; clear own7 g7)
    | (go_at_call 10; refine qe.out.mono ?_; rintro e w8 ⟨rfl, b8⟩; have k8 := hide_ (k7.out.trans (b8.mono k7.out.size)))
    | (go_at_call 7; refine (aw.out _).mono ?_; rintro e w9 ⟨rfl, b9⟩))
  go_ret
  exact ⟨by first | rfl | simp, k8.out.trans (b9.mono k8.out.size)⟩
end

section
open Go Go.RowKit
set_option linter.unusedVariables false
set_option linter.unusedSimpArgs false

set_option maxRecDepth 100000 in
set_option maxHeartbeats 8000000 in
theorem aj_big (s : Option Addr) (sc n : Nat) (s2 : Option Addr) (sc2 m : Nat) (w : World) (h : (100 : Int) < (n : Int) + (m : Int)) (hw : IntKind.i64.wrap ((n : Int) + (m : Int)) = (n : Int) + (m : Int)) :
    Calls Try.prog 6 #[.slice s n sc, .slice s2 m sc2] w fun e w' => e = .returned (.bool true) ∧ Below w.heap.size w w' := by
  have aw := hide_ (fun w => awake13_any w)
  go_enter Try.func6, Try.ntmps6
  go_wp2_with (go_at_call 7; refine (aw.out _).mono ?_; rintro e w3 ⟨rfl, b3⟩)
  go_ret
  exact ⟨rfl, b3⟩
theorem any_wrong {L : List A11} : L.any (fun o => !artO o) = !L.all artO := by
  rw [List.any_eq_not_all_not]
  simp

theorem actsJoin_walk (v u : Value) (L K : List A11) (w : World) (hL : ActAt w v L) (hF : AFit L) (hK : ActAt w u K) (hG : AFit K) (hm : ((L.length : Nat) : Int) + ((K.length : Nat) : Int) ≤ 9223372036854775807) :
    Calls Try.prog 6 #[v, u] w fun e w' => e = .returned (.bool true) ∧ Below w.heap.size w w' := by
  obtain ⟨s, sc, rfl, hl⟩ := hL.slice
  obtain ⟨s2, sc2, rfl, hl2⟩ := hK.slice
  by_cases g1 : L.length + K.length ≤ 100
  · have hFG : AFit (L ++ K) := fun k p x q y f m a b c d hi => by
      rcases List.mem_append.1 hi with hi | hi
      · exact hF _ _ _ _ _ _ _ _ _ _ _ hi
      · exact hG _ _ _ _ _ _ _ _ _ _ _ hi
    have hlen : (L ++ K).length ≤ 100 := by rw [List.length_append]; exact g1
    have hall : (L ++ K).all artO = (L.all artO && K.all artO) := List.all_append
    have no : ∀ M : List A11, AFit M → M.length ≤ 100 → M.all artO = false → ∀ v W, ActAt W v M → Calls Try.prog 8 #[v] W fun e w' => e = .returned (.tuple #[.slice none 0 0, .int .i64 1]) ∧ Below W.heap.size W w' := fun M hM hb hn v W hv => le_no v M W hv @hM hb hn
    have wr : ∀ (M : List A11) (v : Value), AFit M → ActAt w v M → ∀ W, Below w.heap.size w W → Calls Try.prog 21 #[v, (.func (.func 22) #[] #[])] W fun e w' => e = .returned (.bool (!M.all artO)) ∧ Below W.heap.size W w' := fun M v hM hv W hW => by
      have := wcont_any v M W (hv.later hW) @hM
      rw [any_wrong] at this
      exact this
    cases ha : L.all artO
    · have q3 := no (L ++ K) @hFG hlen (by rw [hall, ha]; rfl)
      have q1 := fun W (hW : Below w.heap.size w W) => no L @hF (by omega) ha _ W (hL.later hW)
      have qw := wr L _ @hF hL
      rw [ha] at qw
      cases hb : K.all artO
      · exact aj_nn s sc L s2 sc2 K w hL hK g1 q1 (fun W hW => no K @hG (by omega) hb _ W (hK.later hW)) q3 qw
      · exact aj_ny s sc L s2 sc2 K (encA K) w hL hK g1 q1 (fun W hW => le_yes _ K W (hK.later hW) @hG (by omega) hb) q3 qw
    · have q1 := fun W (hW : Below w.heap.size w W) => le_yes _ L W (hL.later hW) @hF (by omega) ha
      cases hb : K.all artO
      · have q3 := no (L ++ K) @hFG hlen (by rw [hall, hb, Bool.and_false])
        have qw := wr L _ @hF hL
        rw [ha] at qw
        have qv := wr K _ @hG hK
        rw [hb] at qv
        exact aj_yn s sc L s2 sc2 K (encA L) w hL hK g1 q1 (fun W hW => no K @hG (by omega) hb _ W (hK.later hW)) q3 qw qv
      · have h1 := encA_len L @hF ha
        have h2 := encA_len K @hG hb
        exact aj_yy s sc L s2 sc2 K (encA L) (encA K) (encA (L ++ K)) w hL hK g1 ⟨by omega, by omega⟩ q1 (fun W hW => le_yes _ K W (hK.later hW) @hG (by omega) hb) (fun v W hv => le_yes v (L ++ K) W hv @hFG hlen (by rw [hall, ha, hb]; rfl)) (encA_app L K)
  · exact aj_big s sc L.length s2 sc2 K.length w (by omega) (by rw [IntKind.wrap_i64]; omega)
end

section
set_option maxRecDepth 100000
open Go Go.RowKit Go.ChangeShapes Go.WideShapes Go.Deep
set_option linter.unusedVariables false
set_option linter.unusedSimpArgs false

/-- the frame of a law, where the walk is told that what came in is of a size that may be -/
theorem returns_sized {H : Type} {enc : TypeId × Value → H} {a : Assume} {C : Checked} {os : Os} {f : FuncId} {fn : Func} {s : ChangeSpec} {conds : List PathCond} {apart fresh handsOn again : Bool}
    (own : ownKnob C.prog.godebug = none) (started : os.Started) (noInit : C.prog.inits.idxOf? f = none) (hfn : C.prog.funcs[f]? = some fn)
    (witness : ∃ (w : World) (tape : Tape) (i : Input), w.os = os ∧ (w.forCall tape i).Shaped C.prog ∧ i.vars = [] ∧ Input.okWide C.prog (w.forCall tape i) .any w.heap.size f i ∧
      s.pre6 enc C.prog fn conds apart (w.forCall tape i).memory i.args ∧ a.holds C.prog (lone (Frame.enter C.prog f i.args .normal) [] (w.forCall tape i)))
    (contract : ∀ (W : World) (base : Nat) (args : Array Value) (ds gs : List (DataW H)) (before : List MemPlace),
      (∀ (j : Nat) t v, fn.params[j]? = some t → args[j]? = some v → Value.okWide C.prog W .any base t v) →
      DataW.Whole enc C.prog fn.params.toList s.vars apart W args.toList ds gs before →
      conds.all (PathCond.test C.prog ⟨fn.params.toList, ds, s.plain.varTypes C.prog, gs⟩) = true →
      (DataW.weightsEach C.prog (fn.params.toList ++ s.plain.varTypes C.prog) (ds ++ gs)).all (· ≤ reachBytes) = true →
      a.holds C.prog (lone (Frame.enter C.prog f args .normal) [] W) →
      Calls C.prog f args W fun e W' => ∃ v, e = .returned v ∧ s.post enc C.prog fn apart fresh handsOn again W args v W') :
    ReturnsInHanded a C os f .any (s.pre6 enc C.prog fn conds apart) (s.post enc C.prog fn apart fresh handsOn again) := by
  obtain ⟨w0, t0, i0, h1, h2, h3, h4, ⟨h5, h5'⟩, h6⟩ := witness
  have key := returnsInHanded_of_change_and (X := fun _ _ => True) (fun _ _ _ _ _ => trivial) own started noInit hfn ⟨w0, t0, i0, h1, h2, h3, h4, ⟨⟨h5, trivial⟩, h5'⟩, h6⟩ (fun W base args ds gs before a1 a2 a3 a4 _ a6 => contract W base args ds gs before a1 a2 a3 a4 a6)
  have e : (fun w args => (s.pre enc C.prog fn conds apart w args ∧ True) ∧ sizedMet enc C.prog fn (OpenSpec.ofChange s) apart w args) = s.pre6 enc C.prog fn conds apart := by
    funext w args
    simp [ChangeSpec.pre6]
  rw [e] at key
  exact key
theorem acts_data {H : Type} {enc : TypeId × Value → H} {W : World} {base : Nat} {spare : Nat → Bool} {held : Bool} {v : Value} {d : DataW H} {p : List MemPlace} {L : List A11}
    (hL : ActAt W v L) (h : DataW.Trod enc Try.prog W base spare held 22 v d p) : L.length = 0 ∨ ∃ el sp, d = .slice el sp ∧ el.length = L.length := by
  obtain ⟨s, cap, rfl, h1, h2, h3, h4⟩ := hL
  obtain ⟨fuel, hf⟩ := h
  rcases open_slice Try.underlying22 hf with ⟨hcs, -⟩ | ⟨x, l, c, m, n, D, Pl, hcs, hb, hl, hm, hmm, hx0, hx⟩
  · simp [Value.cells] at hcs
    exact .inl (by rw [hcs.2.1]; rfl)
  · simp [Value.cells] at hcs
    obtain ⟨rfl, rfl, rfl⟩ := hcs
    simp only [Prod.mk.injEq] at hx0
    exact .inr ⟨_, _, hx0.1, by simp⟩
theorem bytesAc : Try.prog.bytesOf 46 = 88 := by kernel_rfl
theorem acts_size {H : Type} {enc : TypeId × Value → H} {W : World} {base : Nat} {spare : Nat → Bool} {held : Bool} {v : Value} {d : DataW H} {p : List MemPlace} {L : List A11} {ts : List TypeId} {ds : List (DataW H)} {j : Nat}
    (h : (DataW.weightsEach Try.prog ts ds).all (· ≤ reachBytes) = true) (ht : ts[j]? = some 22) (hd : ds[j]? = some d) (hL : ActAt W v L) (hT : DataW.Trod enc Try.prog W base spare held 22 v d p) : L.length * 88 ≤ 140737488351232 := by
  rcases acts_data hL hT with h0 | ⟨el, sp, rfl, he⟩
  · omega
  · have := sized_slice h ht hd Try.underlying22
    rw [bytesAc] at this
    unfold reachBytes at this
    omega
end

end Go.Proofs.Ytadgppedodlgmaa
