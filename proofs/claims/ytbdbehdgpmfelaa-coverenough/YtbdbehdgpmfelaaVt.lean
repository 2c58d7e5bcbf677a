import Derived.Test.YtbdbehdgpmfelaaVs
import Derived.Test.YtbdbehdgpmfelaaVp
import Derived.Test.YtbdbehdgpmfelaaVo
namespace Go.Proofs.Ytbdbehdgpmfelaa
open Go Go.RowKit
set_option linter.unusedVariables false
set_option linter.unusedSimpArgs false

theorem pay_ok (p : Nat) (m s s1 : Int) (w : World) (hA : AB w p 51 [.int .i64 m, .int .i64 s]) (hs : IntKind.i64.wrap (s + 1) = s1) (hm : payB m s1 = true) :
    Calls Try.prog 31 #[.pointer (some ⟨p, 0, none⟩)] w fun e w' => e = .returned (.bool true) ∧ AB w' p 51 [.int .i64 m, .int .i64 s1] ∧ Out (fun k => k = p) w w' := by
  by_cases h : (1099511627776 : Int) ≤ m
  · exact pay_free p m s s1 w hA hs h
  · refine pay_yes p m s s1 w hA hs ⟨h, ?_⟩
    unfold payB at hm
    simpa [h] using hm
theorem addr_add_block (a : Addr) (n : Nat) : (a.add n).block = a.block := by unfold Addr.add; split <;> rfl
theorem CubesAt.outs {S : Nat → Prop} {w w' : World} {ad : Option Addr} {n cap : Nat} {L : List (List Q4)} (h : CubesAt w (.slice ad n cap) L) (o : Out S w w') (hd : L ≠ [] → ∀ a, ad = some a → ¬ S a.block) : CubesAt w' (.slice ad n cap) L := by
  obtain ⟨⟨h0, a, k, e, h1, h2, h3, h4⟩, h5⟩ := h
  cases e
  refine ⟨⟨h0, _, _, rfl, h1, h2, h3, fun x ex j u hu => ?_⟩, h5⟩
  have hc := h4 x ex j u hu
  rw [← hc]
  exact World.cell?_of_block (o.block _ (World.block_lt_of_cell? w _ hc) (by rw [addr_add_block]; exact hd (fun e => by subst e; simp at hu) x ex))

set_option maxRecDepth 100000 in
set_option maxHeartbeats 4000000 in
theorem lk_cov (p : Nat) (m s s1 : Int) (c : List Q4) (L : List (List Q4)) (ad : Option Addr) (n cap : Nat) (w : World) (hc : isC c) (hnn : L.length = n) (hvL : CubesAt w (.slice ad n cap) L) (hn : L.length ≤ 100000) (hd : L ≠ [] → ∀ a, ad = some a → a.block ≠ p) (hA : AB w p 51 [.int .i64 m, .int .i64 s]) (hs : IntKind.i64.wrap (s + 1) = s1) (hm : payB m s1 = true) (hcv : covC c L = true) :
    Calls Try.prog 21 #[.pointer (some ⟨p, 0, none⟩), cv c, .slice ad n cap] w fun e w' => e = .returned (.tuple #[hv (z24), .bool false, .int .i64 0]) ∧ AB w' p 51 [.int .i64 m, .int .i64 s1] ∧ Out (fun k => k = p) w w' := by
  obtain ⟨b0, a0, a1, a2, a3, a4, a5, hsz⟩ := box6_facts w p c (.slice ad n cap)
  have AP := hA.later b0
  have hp := hA.lt
  have q := hide_ (pay_ok p m s s1 (box6 w p c (.slice ad n cap)) AP hs hm)
  have q2 := hide_ (fun w1 (h : CubesAt w1 (.slice ad n cap) L) => (by have := vhold_any c L (.slice ad n cap) hc w1 h hn; rw [hcv] at this; exact this : Calls Try.prog 32 #[cv c, .slice ad n cap] w1 fun e w2 => e = .returned (.tuple #[.int .i64 0, .bool true]) ∧ Below w1.heap.size w1 w2))
  have HV : Hid (∀ w', Out (fun k => k = p) (box6 w p c (.slice ad n cap)) w' → CubesAt w' (.slice ad n cap) L) := hide_ (fun w' o => (hvL.later b0).outs o hd)
  have hlc := hide_ hc.1
  have b0 := hide_ b0
  have c0 := (a0.cell (j := 0) rfl).1
  have a1 := hide_ a1
  have a2 := hide_ a2
  have a3 := hide_ a3
  have a4 := hide_ a4
  have a5 := hide_ a5
  have hsz := hide_ hsz
  clear hA hs hm AP hvL hc hd hn hnn
  unfold cv at *
  unfold hv at *
  obtain ⟨hz0, -⟩ := zero_of_info zC'
  obtain ⟨hz1, -⟩ := zero_of_info zH'
  have hd := box6_def w p c (.slice ad n cap)
  go_enter Try.func21, Try.ntmps21
  go_wp2_with fail
  clear hd
  go_step3
  go_wp2_with (first | (go_at_call 31; refine q.out.mono ?_; rintro e w1 ⟨rfl, k1, o1⟩; have A1 : Hid (AB w1 (w.heap.size + 1) 28 (tdc c)) := hide_ (a1.out.outs o1 (by show ¬ (_ = p); omega)); have A2 := hide_ (a2.out.outs o1 (by show ¬ (_ = p); omega)); have c2 := (A2.out.cell (j := 0) rfl).1; have hv1 := hide_ (HV.out w1 o1); have k1 := hide_ k1; have o1 := hide_ o1) | (refine wpList_loadA Try.underlying28 rfl (.tmp 4) rfl (w.heap.size + 1) (by simp [Act.eval, Act.put]) (tdc c) (szC hlc.out) A1.out ?_) | (go_at_call 32; refine (q2.out _ hv1.out).mono ?_; rintro e w2 ⟨rfl, b2⟩; have A3 : Hid (AB (w2.alloc (.cells #[.int .i64 0] 3)) (w.heap.size + 1 + 1 + 1) 33 (wdc z24)) := hide_ ((((a3.out.outs o1.out (by show ¬ (_ = p); omega)).later b2).alloc (.cells #[.int .i64 0] 3))); have A4 : Hid (AB ((w2.alloc (.cells #[.int .i64 0] 3)).setRow (w.heap.size + 1 + 1 + 1) (wdc (z24)).toArray) (w.heap.size + 1 + 1 + 1 + 1) 4 [.bool false]) := hide_ (((((a4.out.outs o1.out (by show ¬ (_ = p); omega)).later b2).alloc (.cells #[.int .i64 0] 3))).row_far _ (by omega)); have A5 : Hid (AB (((w2.alloc (.cells #[.int .i64 0] 3)).setRow (w.heap.size + 1 + 1 + 1) (wdc (z24)).toArray).setCell ⟨w.heap.size + 1 + 1 + 1 + 1, 0, none⟩ (.bool false)) (w.heap.size + 1 + 1 + 1 + 1 + 1) 34 [.int .i64 0]) := hide_ ((((((a5.out.outs o1.out (by show ¬ (_ = p); omega)).later b2).alloc (.cells #[.int .i64 0] 3))).row_far _ (by omega)).far _ (by omega)); obtain ⟨c4, f4⟩ := A4.out.cell (j := 0) rfl; obtain ⟨c5, f5⟩ := A5.out.cell (j := 0) rfl) | (refine wpList_storeA rfl (.tmp 6) (.tmp 25) rfl (w.heap.size + 1 + 1 + 1) (by simp [Act.eval, Act.put]) (wdc z24) (wdc (z24)) (by simp only [wdc_length, z24_len, z24_len]) (szW z24_len) (wdc_one _) (by simp [Act.eval, Act.put]) A3.out ?_))
  rw [Exit.noGoto_ret]
  refine bodyPost_ret (results_L _ _ (w.heap.size + 1 + 1 + 1) (w.heap.size + 1 + 1 + 1 + 1) (w.heap.size + 1 + 1 + 1 + 1 + 1) (z24) false 0 z24_len rfl rfl rfl ?_ ?_ ?_) rfl ⟨rfl, ?_, ?_⟩
  · exact ((A3.out.row (cs' := wdc (z24))).far _ (by omega)).far _ (by omega)
  · exact (A4.out.set (j := 0) _).far _ (by omega)
  · exact A5.out.set (j := 0) _
  · exact ((((k1.out.later b2).alloc _).row_far _ (by omega)).far _ (by omega)).far _ (by omega)
  · exact ((Out.of_below (S := fun k => k = p) b0.out).trans o1.out).below_then ((((b2.mono (by have := hsz.out; have := o1.out.size; omega)).alloc (by have := hsz.out; have := o1.out.size; have := b2.size; omega) _)).trans (((below_row (w2.alloc (.cells #[.int .i64 0] 3)) (w.heap.size + 1 + 1 + 1) w.heap.size _ (by omega)).setCell (p := ⟨w.heap.size + 1 + 1 + 1 + 1, 0, none⟩) (by dsimp only; omega) _).setCell (p := ⟨w.heap.size + 1 + 1 + 1 + 1 + 1, 0, none⟩) (by dsimp only; omega) _))

end Go.Proofs.Ytbdbehdgpmfelaa
