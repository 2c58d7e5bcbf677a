import Derived.Test.YtbdbehdgpmfelaaVy
namespace Go.Proofs.Ytbdbehdgpmfelaa
open Go Go.RowKit
set_option linter.unusedVariables false
set_option linter.unusedSimpArgs false

theorem results_K (tmps : Array Value) (w : World) (g3 : Nat) (h : List (Nat × Nat)) (b : Bool) (e : Int) (hl : h.length = 24) (h6 : tmps.getD 6 undef = .pointer (some ⟨g3, 0, none⟩)) (h7 : tmps.getD 7 undef = .bool b) (h8 : tmps.getD 8 undef = .int .i64 e) (A3 : AB w g3 33 (wdc h)) :
    (results Try.f9 tmps).run Try.prog w = .ok (.tuple #[.agg (wdc h).toArray, .bool b, .int .i64 e]) w := by
  have h6' : tmps[6]?.getD undef = .pointer (some ⟨g3, 0, none⟩) := by simpa using h6
  have h7' : tmps[7]?.getD undef = .bool b := by simpa using h7
  have h8' : tmps[8]?.getD undef = .int .i64 e := by simpa using h8
  have t := run_loadVar_row (P := Try.prog) w g3 33 33 (wdc h).toArray (0, 0) _ A3 Try.underlying33 rfl (by simpa using szW hl)
  simp [results, Try.results9, h6', h7', h8', asAddr, t]

set_option maxRecDepth 100000 in
set_option maxHeartbeats 4000000 in
/-- the contract of cover.Look -/
theorem vlook_any (c : List Q4) (L : List (List Q4)) (v : Value) (m : Int) (hc : isC c) (w : World) (hvL : CubesAt w v L) (hn : L.length ≤ 100000) :
    Calls Try.prog 9 #[cv c, v, .int .i64 m] w fun e w' => e = .returned (.tuple #[hv (lookF m L.length L c 0).1, .bool (lookF m L.length L c 0).2.1, .int .i64 (lookF m L.length L c 0).2.2.1]) ∧ Below w.heap.size w w' := by
  obtain ⟨ad, cap, rfl, h1, h2⟩ := hvL.form
  have hd : L ≠ [] → ∀ a, ad = some a → a.block < w.heap.size := fun h a ha => by
    obtain ⟨x, hx⟩ : ∃ x, L[0]? = some x := ⟨_, List.getElem?_eq_getElem (List.length_pos_iff.2 h)⟩
    obtain ⟨b, o, e, hr⟩ := hvL.range hx
    subst ha
    cases e
    have hl := lenC (hvL.2 x (List.mem_of_getElem? hx))
    have := hr 0 _ (List.getElem?_eq_getElem (by omega))
    exact World.block_lt_of_cell? w _ this
  have q := hide_ (fun W (hb : Below w.heap.size w W) (p : Nat) (hp : w.heap.size ≤ p) (hA : AB W p 51 [.int .i64 m, .int .i64 0]) => look_any p m L.length L 0 c ad L.length cap W (Nat.le_refl _) hc rfl (hvL.later hb) hn (fun h a ha => by have := hd h a ha; omega) hA)
  have hl := hide_ (lookF_len m L.length L c 0)
  have hlc := hide_ hc.1
  have aX : Hid (AB (((w.alloc (.cells (tdc c).toArray 28)).alloc (.cells (wdc z24).toArray 33)).alloc (.cells #[.int .i64 m, .int .i64 0] 51)) w.heap.size 28 (tdc c)) := hide_ (((AB.at0 w 28 (tdc c)).alloc _).alloc _)
  have zX : Hid (AB (((w.alloc (.cells (tdc c).toArray 28)).alloc (.cells (wdc z24).toArray 33)).alloc (.cells #[.int .i64 m, .int .i64 0] 51)) (w.heap.size + 1) 33 (wdc z24)) := hide_ ((AB.at1 w (.cells (tdc c).toArray 28) 33 (wdc z24)).alloc _)
  have AX : Hid (AB (((w.alloc (.cells (tdc c).toArray 28)).alloc (.cells (wdc z24).toArray 33)).alloc (.cells #[.int .i64 m, .int .i64 0] 51)) (w.heap.size + 1 + 1) 51 [.int .i64 m, .int .i64 0]) := hide_ (AB.at2 w (.cells (tdc c).toArray 28) (.cells (wdc z24).toArray 33) 51 [.int .i64 m, .int .i64 0])
  have bX := hide_ (below3 w (.cells (tdc c).toArray 28) (.cells (wdc z24).toArray 33) (.cells #[.int .i64 m, .int .i64 0] 51))
  clear hvL hd h1 h2 hc hn
  unfold cv at *
  unfold hv at *
  obtain ⟨hz1, -⟩ := zero_of_info zH'
  go_enter Try.func9, Try.ntmps9
  go_wp2_with (first | (refine wpList_loadA Try.underlying28 rfl (.tmp 3) rfl (w.heap.size) (by simp [Act.eval, Act.put]) (tdc c) (szC hlc.out) aX.out ?_) | (go_at_call 21; refine (q.out _ bX.out (w.heap.size + 1 + 1) (by omega) AX.out).mono ?_; rintro e w2 ⟨rfl, k2, o2⟩; have Z2 : Hid (AB w2 (w.heap.size + 1) 33 (wdc z24)) := hide_ (zX.out.outs o2 (by show ¬ (_ = _); omega)); have o2 := hide_ o2) | (refine wpList_storeA rfl (.tmp 6) (.tmp 16) rfl (w.heap.size + 1) (by simp [Act.eval, Act.put]) (wdc z24) (wdc (lookF m L.length L c 0).1) (by simp only [wdc_length, hl.out, z24_len]) (szW hl.out) (wdc_one _) (by simp [Act.eval, Act.put]) Z2.out ?_))
  exact bodyPost_ret (results_K _ _ (w.heap.size + 1) (lookF m L.length L c 0).1 (lookF m L.length L c 0).2.1 (lookF m L.length L c 0).2.2.1 hl.out rfl rfl rfl Z2.out.row) rfl ⟨rfl, (o2.out.below bX.out (Nat.le_refl _) (fun k e => by have e : k = w.heap.size + 1 + 1 := e; omega)).trans (below_row w2 (w.heap.size + 1) w.heap.size _ (by omega))⟩

end Go.Proofs.Ytbdbehdgpmfelaa
