import Derived.Test.YtcffebkebldjcaaEq
import Derived.Test.YtcffebkebldjcaaEr
import Derived.Test.YtcffebkebldjcaaEm
import Derived.Test.YtcffebkebldjcaaEk
import Derived.Test.YtcffebkebldjcaaEp
import Derived.Deep.RegionHeld3
import Derived.Deep.RegionWith
import Derived.Deep.MidRow
import Derived.Deep.Cut
namespace Go.Proofs.Ytcffebkebldjcaa
open Go Go.RowKit
set_option linter.unusedVariables false
set_option linter.unusedSimpArgs false

set_option maxRecDepth 100000 in
set_option maxHeartbeats 8000000 in
theorem matchBack_big (s : Option Addr) (sc n : Nat) (v : Value) (m k : Nat) (w : World) (hv : ∃ a c, v = .slice a m c) (h : (60 : Int) < (n : Int) ∨ ((¬ (60 : Int) < (n : Int)) ∧ (2000 : Int) < (m : Int))) :
    Calls Try.prog 6 #[.slice s n sc, v] w fun e w' => e = .returned (.bool true) ∧ Below w.heap.size w w' := by
  have aw := hide_ (fun w => awake11_any w)
  obtain ⟨a, c, rfl⟩ := hv
  rcases h with h | ⟨h, h2⟩
  · go_enter Try.func6, Try.ntmps6
    go_wp2_with (go_at_call 8; refine (aw.out _).mono ?_; rintro e w3 ⟨rfl, b3⟩)
    go_ret
    exact ⟨rfl, b3⟩
  · go_enter Try.func6, Try.ntmps6
    go_wp2_with (go_at_call 8; refine (aw.out _).mono ?_; rintro e w3 ⟨rfl, b3⟩)
    go_ret
    exact ⟨rfl, b3⟩
theorem isB_mencL {L : List O6} (hF : Fit L) (hr : L.any (fun t => !rgtO t) = false) : isB (mencL L) := by
  have h1 : isB (encs L) := by
    intro z hz
    unfold encs at hz
    obtain ⟨⟨f, m, a, b, c, d⟩, ho, hz'⟩ := List.mem_flatMap.1 hz
    obtain ⟨i, hi⟩ := List.getElem?_of_mem ho
    obtain ⟨g1, g2, g3, g4⟩ := hF i f m a b c d hi
    have hrr : rgt f m a b c d = true := by
      have := List.any_eq_false.1 hr _ ho
      simpa [rgtO] using this
    exact (encL_ok g1 g2 g3 g4 hrr).2 z hz'
  exact ((isB_spl2 _).app (isB_spl2 _)).app (h1.app (isB_zeros _))
theorem matchBack_walk (v u : Value) (L : List O6) (l : List Int) (w : World) (hL : OxAt w v L) (hF : Fit L) (hB : Bytes w u l) :
    Calls Try.prog 6 #[v, u] w fun e w' => e = .returned (.bool true) ∧ Below w.heap.size w w' := by
  have hiB := hB.isB_
  obtain ⟨s, sc, rfl, hl⟩ := hL
  have hL : OxAt w (.slice s L.length sc) L := ⟨s, sc, rfl, hl⟩
  obtain ⟨ao, cap, rfl, h1⟩ := hB
  have hB : Bytes w (.slice ao l.length cap) l := ⟨ao, cap, rfl, h1⟩
  by_cases g1 : (60 : Int) < (L.length : Int)
  · exact matchBack_big s sc L.length _ l.length 0 w ⟨_, _, rfl⟩ (.inl g1)
  by_cases g2 : (2000 : Int) < (l.length : Int)
  · exact matchBack_big s sc L.length _ l.length 0 w ⟨_, _, rfl⟩ (.inr ⟨g1, g2⟩)
  have hdec : (∃ cc : Int, ∀ W, Below w.heap.size w W → Calls Try.prog 20 #[.slice ao l.length cap] W fun e w' => e = .returned (.tuple #[.slice none 0 0, .int .i64 0, .agg #[.bool true, .int .i64 4, .int .i64 cc]]) ∧ Below W.heap.size W w') ∨ ∃ (K : List O6) (n : Nat), n ≤ l.length ∧ (∀ W, Below w.heap.size w W → Calls Try.prog 20 #[.slice ao l.length cap] W fun e w' => (∃ r, e = .returned (.tuple #[r, .int .i64 (n : Int), .agg #[.bool false, .int .i64 0, .int .i64 0]]) ∧ OxAt w' r K) ∧ Below W.heap.size W w') ∧ (∀ r W, OxAt W r K → Calls Try.prog 9 #[r] W fun e w' => (∃ r', e = .returned (.tuple #[r', .int .i64 0]) ∧ Bytes w' r' (l.take n)) ∧ Below W.heap.size W w') := by
    rcases mdec_all hiB with ⟨c, hb⟩ | ⟨K, N, hok, hN, hbe, h4, hx, hle, hp, hc, hz⟩
    · exact .inl ⟨c, fun W hW => hb _ W (hB.later hW)⟩
    · refine .inr ⟨K, r8 N, hle, fun W hW => hok _ W (hB.later hW), fun r W hr => ?_⟩
      obtain ⟨-, kF, kr⟩ := pok_all hp
      have he := menc_dec hiB hN hbe h4 hle hp hz
      obtain ⟨hsm, h24⟩ := encs_small kr hc
      have := menc_yes r K W hr kF (by omega) kr (by rw [hc]; rfl) hsm
      rw [he] at this
      exact this
  cases hr : L.any (fun t => !rgtO t)
  · cases hc : mchk [] L with
    | some z =>
      have q1 := menc_no2 _ L w hL hF z hr (by rw [hc]; rfl)
      rcases hdec with ⟨cc, hd⟩ | ⟨K, n, hn, hd, hp⟩
      · exact mback_no_fault s sc L ao cap l w g1 g2 hB q1 cc hd
      · exact mback_no_ok s sc L ao cap l w g1 g2 hB q1 K n hn hd hp
    | none =>
      obtain ⟨hsm, h24⟩ := encs_small hr hc
      have q1 := menc_yes _ L w hL hF (by omega) hr (by rw [hc]; rfl) hsm
      obtain ⟨n8, gm, hn8, h8⟩ : ∃ n8 : Nat, (if (8 : Int) < (l.length : Int) then (8 : Int) else (l.length : Int)) = (n8 : Int) ∧ n8 ≤ l.length ∧ n8 ≤ 8 := by
        by_cases h : 8 < l.length
        · exact ⟨8, by rw [if_pos (by omega)]; rfl, by omega, by omega⟩
        · exact ⟨l.length, by rw [if_neg (by omega)], by omega, by omega⟩
      obtain ⟨hdn, hlen⟩ := mdec_enc (l.take n8) hF hr hc
      have hm8 : (mencL L).length % 8 = 0 := by rw [hlen]; unfold r8; omega
      have hLl : (mencL L).length ≤ 2000 := by have := r8_le (4 + (encs L).length); omega
      refine mback_yes s sc L ao cap l w g1 g2 hB (mencL L) n8 gm hn8 h8 hLl (isB_mencL hF hr) hm8 q1 (fun v W h => ?_) (fun r W hW hR => ?_) hdec
      · have := hdn v W h
        rw [← hlen] at this
        exact this
      · have := msame_any r _ L L W hR (hL.later hW)
        rw [decide_eq_true rfl] at this
        exact this
  · have q1 := menc_no1 _ L w hL hF hr
    rcases hdec with ⟨cc, hd⟩ | ⟨K, n, hn, hd, hp⟩
    · exact mback_no_fault s sc L ao cap l w g1 g2 hB q1 cc hd
    · exact mback_no_ok s sc L ao cap l w g1 g2 hB q1 K n hn hd hp

end Go.Proofs.Ytcffebkebldjcaa
