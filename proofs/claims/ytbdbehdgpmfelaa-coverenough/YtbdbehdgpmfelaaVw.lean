import Derived.Test.YtbdbehdgpmfelaaVu
import Derived.Test.YtbdbehdgpmfelaaVv
import Derived.Test.YtbdbehdgpmfelaaVe
import Derived.Test.YtbdbehdgpmfelaaVx
namespace Go.Proofs.Ytbdbehdgpmfelaa
open Go Go.RowKit
set_option linter.unusedVariables false
set_option linter.unusedSimpArgs false

/-- a region that draws, and does not panic -/
theorem wp_region_heldQ {P : Program} {id : Nat} {ops : Array Oper} {Q : Exit → Act → World → Prop} {S : World → Prop} {a : Act} {w : World} (hm : P.follows .mixedOrders = true) (hS : S w.drew)
    (h : S w.drew → wpAnyH P .any ops (Exit.then (fun a w => Q .normal a w) (fun _ _ _ => False)) S ops.size (Array.replicate ops.size false) a w.drew) : (Code.region id ops true).wp P Q a w := by
  refine wp_mono (wp_region_held_drew hm hS h) (fun e a w h => ?_)
  cases e with
  | normal => exact h
  | _ => exact h.elim
/-- what stands while a look goes through the parts -/
structure LK (w : World) (p B9 : Nat) (m : Int) (v : Value) (F : Nat) (r : LR) (W : World) : Prop where
  out : Out (fun k => k = p) w W
  b0 : AB W (w.heap.size) 62 [.pointer (some ⟨p, 0, none⟩)]
  b2 : AB W (w.heap.size + 1 + 1) 29 [v]
  b3 : AB W (w.heap.size + 1 + 1 + 1) 33 (wdc r.1)
  b4 : AB W (w.heap.size + 1 + 1 + 1 + 1) 4 [.bool r.2.1]
  b5 : AB W (w.heap.size + 1 + 1 + 1 + 1 + 1) 34 [.int .i64 r.2.2.1]
  b9 : AB W B9 3 [.int .i64 (F : Nat)]
  bp : AB W p 51 [.int .i64 m, .int .i64 r.2.2.2]
  hl : r.1.length = 24
theorem LK.outs {w : World} {p B9 : Nat} {m : Int} {v : Value} {F : Nat} {r : LR} {W W' : World} {S : Nat → Prop} (h : LK w p B9 m v F r W) (o : Out S W W') (hp : p < w.heap.size) (h9 : w.heap.size + 1 + 1 + 1 + 1 + 1 < B9) (hS : ∀ k, S k → B9 < k) : LK w p B9 m v F r W' where
  out := h.out.below_then ⟨o.os, o.tape, o.output, o.size, fun k hk => o.block k (Nat.lt_of_lt_of_le hk h.out.size) (fun e => by have := hS k e; omega)⟩
  b0 := h.b0.outs o (fun e => by have := hS _ e; omega)
  b2 := h.b2.outs o (fun e => by have := hS _ e; omega)
  b3 := h.b3.outs o (fun e => by have := hS _ e; omega)
  b4 := h.b4.outs o (fun e => by have := hS _ e; omega)
  b5 := h.b5.outs o (fun e => by have := hS _ e; omega)
  b9 := h.b9.outs o (fun e => by have := hS _ e; omega)
  bp := h.bp.outs o (fun e => by have := hS _ e; omega)
  hl := h.hl
theorem LK.later {w : World} {p B9 : Nat} {m : Int} {v : Value} {F : Nat} {r : LR} {W W' : World} (h : LK w p B9 m v F r W) (hb : Below W.heap.size W W') (hp : p < w.heap.size) (h9 : w.heap.size + 1 + 1 + 1 + 1 + 1 < B9) : LK w p B9 m v F r W' := h.outs (S := fun _ => False) (Out.of_below hb) hp h9 (fun _ e => e.elim)

/-- the rounds' invariant; how a round stops -/
def LKI (w : World) (p B9 : Nat) (m : Int) (v : Value) (F : Nat) (f : List Q4 → Int → LR) (r0 : LR) (n3 : Nat) (S : Nat → Prop) (pre : List (List Q4)) (W : World) : Prop :=
  (∃ r, (∀ rest, runP f (pre ++ rest) r0 = runP f rest r) ∧ LK w p B9 m v F r W) ∧ (∀ k, S k → B9 < k ∧ k < W.heap.size) ∧ n3 ≤ W.heap.size
def LKX (w : World) (p B9 : Nat) (m : Int) (v : Value) (F : Nat) (f : List Q4 → Int → LR) (r0 : LR) (cd : Code) (S : Nat → Prop) (pre : List (List Q4)) (W : World) : Prop :=
  cd = .exit 0 ∧ (∃ r, (∀ rest, runP f (pre ++ rest) r0 = r) ∧ LK w p B9 m v F r W) ∧ (∀ k, S k → B9 < k)
theorem runP_stop {f : List Q4 → Int → LR} {pre : List (List Q4)} {y : List Q4} {r0 r : LR} (h1 : ∀ rest, runP f (pre ++ rest) r0 = runP f rest r) (hs : ((f y r.2.2.2).2.1 || !decide ((f y r.2.2.2).2.2.1 = 0)) = true) : ∀ rest, runP f (pre ++ [y] ++ rest) r0 = f y r.2.2.2 := fun rest => by
  rw [List.append_assoc, h1, List.singleton_append, runP, hs]
theorem runP_go {f : List Q4 → Int → LR} {pre : List (List Q4)} {y : List Q4} {r0 r : LR} (h1 : ∀ rest, runP f (pre ++ rest) r0 = runP f rest r) (hs : ((f y r.2.2.2).2.1 || !decide ((f y r.2.2.2).2.2.1 = 0)) = false) : ∀ rest, runP f (pre ++ [y] ++ rest) r0 = runP f rest (f y r.2.2.2) := fun rest => by
  rw [List.append_assoc, h1, List.singleton_append, runP, hs]
theorem mk13 {h : Nat} {r : List (Nat × Nat)} {b : Bool} {e : Int} (W : World) (a3 : AB W (h + 1 + 1 + 1) 33 (wdc r)) (a4 : AB W (h + 1 + 1 + 1 + 1) 4 [.bool b]) (a5 : AB W (h + 1 + 1 + 1 + 1 + 1) 34 [.int .i64 e]) :
    W.cell? ⟨h + 1 + 1 + 1 + 1, 0, none⟩ = some (.bool b) ∧ W.frozen? ⟨h + 1 + 1 + 1 + 1, 0, none⟩ = false ∧ W.cell? ⟨h + 1 + 1 + 1 + 1 + 1, 0, none⟩ = some (.int .i64 e) ∧ W.frozen? ⟨h + 1 + 1 + 1 + 1 + 1, 0, none⟩ = false ∧ AB W (h + 1 + 1 + 1) 33 (wdc r) ∧ AB W (h + 1 + 1 + 1 + 1) 4 [.bool b] ∧ AB W (h + 1 + 1 + 1 + 1 + 1) 34 [.int .i64 e] :=
  ⟨(a4.cell (j := 0) rfl).1, (a4.cell (j := 0) rfl).2, (a5.cell (j := 0) rfl).1, (a5.cell (j := 0) rfl).2, a3, a4, a5⟩
theorem mk10 {p B9 Bv F h : Nat} {v : Value} {y : List Q4} (W : World) (a : AB W h 62 [.pointer (some ⟨p, 0, none⟩)]) (b : AB W (h + 1 + 1) 29 [v]) (c : AB W B9 3 [.int .i64 (F : Nat)]) (d : AB W Bv 28 (tdc y)) :
    W.cell? ⟨h, 0, none⟩ = some (.pointer (some ⟨p, 0, none⟩)) ∧ W.cell? ⟨h + 1 + 1, 0, none⟩ = some v ∧ W.cell? ⟨B9, 0, none⟩ = some (.int .i64 (F : Nat)) ∧ AB W Bv 28 (tdc y) ∧ AB W h 62 [.pointer (some ⟨p, 0, none⟩)] ∧ AB W (h + 1 + 1) 29 [v] ∧ AB W B9 3 [.int .i64 (F : Nat)] :=
  ⟨(a.cell (j := 0) rfl).1, (b.cell (j := 0) rfl).1, (c.cell (j := 0) rfl).1, d, a, b, c⟩

set_option maxRecDepth 100000 in
set_option maxHeartbeats 4000000 in
theorem lk_rec (p : Nat) (m s s1 : Int) (c : List Q4) (L : List (List Q4)) (ad : Option Addr) (n cap : Nat) (w : World) (F : Nat) (rec : List (List Q4) → List Q4 → Int → LR) (hc : isC c) (hnn : L.length = n) (hvL : CubesAt w (.slice ad n cap) L) (hn : L.length ≤ 100000) (hd : L ≠ [] → ∀ a, ad = some a → a.block ≠ p) (hA : AB w p 51 [.int .i64 m, .int .i64 s]) (hs : IntKind.i64.wrap (s + 1) = s1) (hm : payB m s1 = true) (hcv : covC c L = false) (hat : firK c L L.length L.length = F) (hF : F < n)
    (ih : ∀ (W : World) (c' : List Q4) (s' : Int) (ad' : Option Addr) (n' cap' : Nat), isC c' → (L.drop (F + 1)).length = n' → CubesAt W (.slice ad' n' cap') (L.drop (F + 1)) → (L.drop (F + 1) ≠ [] → ∀ a, ad' = some a → a.block ≠ p) → AB W p 51 [.int .i64 m, .int .i64 s'] →
      Calls Try.prog 21 #[.pointer (some ⟨p, 0, none⟩), cv c', .slice ad' n' cap'] W fun e w' => e = .returned (.tuple #[hv (rec (L.drop (F + 1)) c' s').1, .bool (rec (L.drop (F + 1)) c' s').2.1, .int .i64 (rec (L.drop (F + 1)) c' s').2.2.1]) ∧ AB w' p 51 [.int .i64 m, .int .i64 (rec (L.drop (F + 1)) c' s').2.2.2] ∧ Out (fun k => k = p) W w' ∧ (rec (L.drop (F + 1)) c' s').1.length = 24) :
    Calls Try.prog 21 #[.pointer (some ⟨p, 0, none⟩), cv c, .slice ad n cap] w fun e w' => e = .returned (.tuple #[hv (runP (rec (L.drop (F + 1))) (partsC c (L.getD F [])) (z24h, false, 0, s1)).1, .bool (runP (rec (L.drop (F + 1))) (partsC c (L.getD F [])) (z24h, false, 0, s1)).2.1, .int .i64 (runP (rec (L.drop (F + 1))) (partsC c (L.getD F [])) (z24h, false, 0, s1)).2.2.1]) ∧ AB w' p 51 [.int .i64 m, .int .i64 (runP (rec (L.drop (F + 1))) (partsC c (L.getD F [])) (z24h, false, 0, s1)).2.2.2] ∧ Out (fun k => k = p) w w' := by
  obtain ⟨b0, a0, a1, a2, a3, a4, a5, hsz⟩ := box6_facts w p c (.slice ad n cap)
  have AP := hA.later b0
  have hp := hA.lt
  have q := hide_ (pay_ok p m s s1 (box6 w p c (.slice ad n cap)) AP hs hm)
  have q2 := hide_ (fun w1 (h : CubesAt w1 (.slice ad n cap) L) => (by have := vhold_any c L (.slice ad n cap) hc w1 h hn; rw [hcv, hat] at this; exact this : Calls Try.prog 32 #[cv c, .slice ad n cap] w1 fun e w2 => e = .returned (.tuple #[.int .i64 (F : Nat), .bool false]) ∧ Below w1.heap.size w1 w2))
  have HV : Hid (∀ w', Out (fun k => k = p) (box6 w p c (.slice ad n cap)) w' → CubesAt w' (.slice ad n cap) L) := hide_ (fun w' o => (hvL.later b0).outs o hd)
  have HVW : Hid (∀ W, Out (fun k => k = p) w W → CubesAt W (.slice ad n cap) L) := hide_ (fun W o => hvL.outs o hd)
  have hlc := hide_ hc.1
  obtain ⟨x, hx⟩ : ∃ x, L[F]? = some x := ⟨_, List.getElem?_eq_getElem (by omega)⟩
  have hgx : L.getD F [] = x := by rw [List.getD_eq_getElem?_getD, hx]; rfl
  rw [hgx]
  have hxC := hvL.2 x (List.mem_of_getElem? hx)
  have hlx := hide_ hxC.1
  have q4 := hide_ (fun w => parts_any c x hc hxC w)
  have HPC := hide_ (partsC_isC c x hc)
  have HX := hide_ hx
  have HD := hide_ (hd (fun e => by rw [e] at hnn; simp at hnn; omega))
  have IH := hide_ ih
  have HN := hide_ hnn
  have HN2 := hide_ hn
  have hF' : (F : Int) < (n : Int) := by omega
  have hFn : ¬ ((F : Int) = (n : Int)) := by omega
  have hF0 : (0 : Int) ≤ (F : Int) := by omega
  have b0 := hide_ b0
  have c0 := (a0.cell (j := 0) rfl).1
  have a0 := hide_ a0
  have a1 := hide_ a1
  have a2 := hide_ a2
  have a3 := hide_ a3
  have a4 := hide_ a4
  have a5 := hide_ a5
  have hsz := hide_ hsz
  clear hA hs hm AP hvL hc hd hn hnn hxC hx hgx ih hcv hat
  generalize partsC c x = PS at *
  generalize hf : rec (L.drop (F + 1)) = f at *
  unfold cv at *
  unfold hv at *
  obtain ⟨hz0, -⟩ := zero_of_info zC'
  obtain ⟨hz1, -⟩ := zero_of_info zH'
  have hd := box6_def w p c (.slice ad n cap)
  refine calls_of_wp_marks Try.func21 rfl ?_
  simp only [Try.ntmps21, List.size_toArray, List.length_cons, List.length_nil, Nat.reduceAdd, Nat.reduceSub, Array.replicate_succ, Array.replicate_zero, List.push_toArray, List.append_toArray, List.nil_append, List.cons_append]
  go_wp2_with fail
  clear hd
  go_step3
  go_wp2_with (first | (go_at_call 31; refine q.out.mono ?_; rintro e w1 ⟨rfl, k1, o1⟩; have A1 : Hid (AB w1 (w.heap.size + 1) 28 (tdc c)) := hide_ (a1.out.outs o1 (by show ¬ (_ = p); omega)); have A2 := hide_ (a2.out.outs o1 (by show ¬ (_ = p); omega)); have c2 := (A2.out.cell (j := 0) rfl).1; have hv1 := hide_ (HV.out w1 o1); have k1 := hide_ k1; have o1 := hide_ o1) | (refine wpList_loadA Try.underlying28 rfl (.tmp 4) rfl (w.heap.size + 1) (by simp [Act.eval, Act.put]) (tdc c) (szC hlc.out) A1.out ?_) | (go_at_call 32; refine (q2.out _ hv1.out).mono ?_; rintro e w2 ⟨rfl, b2⟩; have c2b := (((A2.out.later b2).alloc (.cells #[.int .i64 (F : Nat)] 3)).cell (j := 0) rfl).1; have b2 := hide_ b2))
  go_step3
  have hv2 := hv1.out.later b2.out
  obtain ⟨g, o, hga, hr⟩ := (hv2.later ((below1 w2 (.cells #[.int .i64 (F : Nat)] 3)))).range HX.out
  subst hga
  have h9 : w.heap.size + 1 + 1 + 1 + 1 + 1 < w2.heap.size := by have := hsz.out; have := o1.out.size; have := b2.out.size; omega
  have K0 : LK w p w2.heap.size m (.slice (some ⟨g, o, none⟩) n cap) F (z24h, false, 0, s1) (w2.alloc (.cells #[.int .i64 (F : Nat)] 3)) :=
    ⟨((Out.of_below b0.out).trans o1.out).below_then (((b2.out.mono (by have := hsz.out; have := o1.out.size; omega)).alloc (by omega) _)),
     ((a0.out.outs o1.out (by show ¬ (_ = p); omega)).later b2.out).alloc _, (A2.out.later b2.out).alloc _, ((a3.out.outs o1.out (by show ¬ (_ = p); omega)).later b2.out).alloc _, ((a4.out.outs o1.out (by show ¬ (_ = p); omega)).later b2.out).alloc _, ((a5.out.outs o1.out (by show ¬ (_ = p); omega)).later b2.out).alloc _, AB.at0 w2 3 [.int .i64 (F : Nat)], (k1.out.later b2.out).alloc _, rfl⟩
  have c9 := (K0.b9.cell (j := 0) rfl).1
  have r1 := ((A1.out.later b2.out).alloc (.cells #[.int .i64 (F : Nat)] 3)).range
  have KO := K0.out
  have K0 := hide_ K0
  go_wp2_with fail
  clear b2 o1 k1 A1 A2 hv1 hv2 a0 a1 a2 a3 a4 a5 b0 hsz HV q q2 c0 c2
  generalize w2.alloc (.cells #[.int .i64 (F : Nat)] 3) = W0 at *
  generalize w2.heap.size = B9 at *
  refine wp_region_heldQ (S := (fun w' => w'.rangeAt (w.heap.size + 1) 0 (tdc c) ∧ w'.cell? ⟨w.heap.size + 1 + 1, 0, none⟩ = some (.slice (some ⟨g, o, none⟩) n cap) ∧ w'.cell? ⟨B9, 0, none⟩ = some (.int .i64 (F : Nat)) ∧ w'.rangeAt g (o + F * 96) (tdc x) ∧ Below W0.heap.size W0 w')) (by kernel_rfl) (⟨range_later r1 (Below.refl _ _).drew, cell_later (Below.refl _ _).drew c2b, cell_later (Below.refl _ _).drew c9, range_later hr (Below.refl _ _).drew, (Below.refl _ _).drew⟩) (fun hHeld => ?_)
  have hDs : W0.heap.size = W0.drew.heap.size := rfl
  generalize W0.drew = D at *
  refine takeM Try.underlying28 (i := 0) rfl (by kernel_rfl) (by kernel_rfl) (by kernel_rfl) (some 32) rfl (.tmp 4) rfl (by rfl) (w.heap.size + 1) (0) rfl (tdc c) (szC hlc.out) (fun w h => h.1) (fun _ _ _ h => h) (by assumption) ?_
  simp only [Act.put, List.setIfInBounds_toArray, List.set_cons_zero, List.set_cons_succ]
  refine takeR (i := 1) (v := ?_) rfl (by kernel_rfl) (by kernel_rfl) (by kernel_rfl) (some 33) rfl (Or.inl ⟨by rfl, ?_⟩) (fun _ _ _ h => h) (by assumption) ?_
  rotate_left
  · intro w hSw; (try dsimp only at hSw); go_simp; (try with_reducible rfl)
  simp only [Act.put, List.setIfInBounds_toArray, List.set_cons_zero, List.set_cons_succ]
  refine takeR (i := 2) (v := ?_) rfl (by kernel_rfl) (by kernel_rfl) (by kernel_rfl) (some 34) rfl (Or.inl ⟨by rfl, ?_⟩) (fun _ _ _ h => h) (by assumption) ?_
  rotate_left
  · intro w hSw; (try dsimp only at hSw); go_simp; (try with_reducible rfl)
  simp only [Act.put, List.setIfInBounds_toArray, List.set_cons_zero, List.set_cons_succ]
  refine takeR (i := 3) (v := ?_) rfl (by kernel_rfl) (by kernel_rfl) (by kernel_rfl) (some 35) rfl (Or.inl ⟨by rfl, ?_⟩) (fun _ _ _ h => h) (by assumption) ?_
  rotate_left
  · intro w hSw; (try dsimp only at hSw); go_simp; (try with_reducible rfl)
  simp only [Act.put, List.setIfInBounds_toArray, List.set_cons_zero, List.set_cons_succ]
  refine takeM Try.underlying28 (i := 4) rfl (by kernel_rfl) (by kernel_rfl) (by kernel_rfl) (some 36) rfl (.tmp 35) rfl (by rfl) (g) (o + F * 96) rfl (tdc x) (szC hlx.out) (fun w h => h.2.2.2.1) (fun _ _ _ h => h) (by assumption) ?_
  simp only [Act.put, List.setIfInBounds_toArray, List.set_cons_zero, List.set_cons_succ]
  refine wpAnyH_ready (rs := [5]) (by kernel_rfl) (by simp) ?_
  refine AllReadyH.cons rfl (fun K hK => ?_) (AllReadyH.nil)
  go_simp
  refine (q4.out _).mono ?_
  rintro e w3 ⟨v, rfl, hsq, b3⟩
  have hsq := hide_ hsq
  have b3 := hide_ b3
  refine hK.out _ _ (⟨range_later hHeld.1 b3.out, cell_later b3.out hHeld.2.1, cell_later b3.out hHeld.2.2.1, range_later hHeld.2.2.2.1 b3.out, hHeld.2.2.2.2.trans (b3.out.mono hHeld.2.2.2.2.size)⟩) (fun hHeld => ?_)
  clear hK K
  try simp only [Act.put, List.setIfInBounds_toArray, List.set_cons_zero, List.set_cons_succ]
  refine wpAnyH_done (by kernel_rfl) ?_ _
  go_wp2_with fail
  have K3 := hide_ (K0.out.later hHeld.2.2.2.2 hp h9)
  have s3 := hide_ hHeld.2.2.2.2.size
  have sD : W0.heap.size ≤ D.heap.size := by rw [← hDs]; exact Nat.le_refl _
  obtain ⟨R, hRdef⟩ : ∃ R : Nat → Prop, (fun k => D.heap.size ≤ k ∧ k < w3.heap.size) = R := ⟨_, rfl⟩
  have h90 : B9 < W0.heap.size := K0.out.b9.lt
  have hR : ∀ k, R k → B9 < k ∧ k < w3.heap.size := fun k hk => by
    rw [← hRdef] at hk
    exact ⟨by have := hk.1; omega, hk.2⟩
  have hs1 := hsq.out
  rw [hRdef] at hs1
  have hHV := hide_ hHeld
  clear hsq hRdef hHeld K0 r1 c2b c9 hr b3 KO
  refine wp_rangeX (α := List Q4) (v := v) (by rfl) hs1 (fun k hk => (hR k hk).2) (Below.refl _ _) (fun _ => rfl)
    (fun S pre W => LKI w p B9 m (.slice (some ⟨g, o, none⟩) n cap) F f (z24h, false, 0, s1) w3.heap.size S pre W)
    (fun cd S pre W => LKX w p B9 m (.slice (some ⟨g, o, none⟩) n cap) F f (z24h, false, 0, s1) cd S pre W)
    (fun S y a' W => ∃ Bv, AB W Bv 28 (tdc y) ∧ ¬ S Bv ∧ B9 < Bv ∧ a' = { tmps := #[.pointer (some ⟨p, 0, none⟩), .agg (tdc c).toArray, (.slice (some ⟨g, o, none⟩) n cap), .pointer (some ⟨w.heap.size, 0, none⟩), .pointer (some ⟨w.heap.size + 1, 0, none⟩), .pointer (some ⟨w.heap.size + 1 + 1, 0, none⟩), .pointer (some ⟨w.heap.size + 1 + 1 + 1, 0, none⟩), .pointer (some ⟨w.heap.size + 1 + 1 + 1 + 1, 0, none⟩), .pointer (some ⟨w.heap.size + 1 + 1 + 1 + 1 + 1, 0, none⟩), .pointer (some ⟨B9, 0, none⟩), .bool false, .pointer (some ⟨Bv, 0, none⟩), .pointer (some ⟨p, 0, none⟩), .pointer (some ⟨p, 0, none⟩), .pointer (some ⟨p, 0, none⟩), .bool true, .bool false, undef, .tuple #[.int .i64 (F : Nat), .bool false], .agg (tdc c).toArray, (.slice (some ⟨g, o, none⟩) n cap), .tuple #[.int .i64 (F : Nat), .bool false], .int .i64 (F : Nat), .bool false, .bool false, undef, .int .i64 (F : Nat), (.slice (some ⟨g, o, none⟩) n cap), .int .i64 (n : Nat), .bool false, undef, undef, .agg (tdc c).toArray, (.slice (some ⟨g, o, none⟩) n cap), .int .i64 (F : Nat), .pointer (some ⟨g, o + F * 96, none⟩), .agg (tdc x).toArray, v, .agg (tdc y).toArray, undef, undef, undef, undef, undef, undef, undef, undef, undef, undef, undef, undef, undef, undef, undef, undef, undef, undef], defers := [] })
    (fun S pre A A' ⟨⟨r, h1, h2⟩, h3, h4⟩ ho => ⟨⟨r, h1, h2.outs ho hp h9 (fun k hk => (h3 k hk).1)⟩, fun k hk => ⟨(h3 k hk).1, Nat.lt_of_lt_of_le (h3 k hk).2 ho.size⟩, Nat.le_trans h4 ho.size⟩)
    (fun S pre A A' ⟨⟨r, h1, h2⟩, h3, h4⟩ ho => ⟨⟨r, h1, h2.later ho hp h9⟩, fun k hk => Or.elim hk (fun hk => by have h9A := h2.b9.lt; have hz := ho.size; have := h3 k hk; omega) (fun hk => by have h9A := h2.b9.lt; omega), Nat.le_trans h4 ho.size⟩)
    (fun cd S pre A A' ⟨h0, ⟨r, h1, h2⟩, h3⟩ ho => ⟨h0, ⟨r, h1, h2.outs ho hp h9 h3⟩, h3⟩)
    (fun S y a' A A' ⟨Bv, h1, h2, h3, h4⟩ ho => ⟨Bv, (ho.block Bv h1.lt h2).trans h1, h2, h3, h4⟩)
    ?start ?assign ?body ?done ?stop
  case start =>
    intro W hb hsz
    refine ⟨⟨_, fun rest => rfl, K3.out.later hb hp h9⟩, fun k hk => ?_, hb.size⟩
    rcases hk with hk | hk
    · exact hk.elim
    · have := s3.out; omega
  case assign =>
    rintro l S pre y W hpre ⟨⟨r, h1, h2⟩, h3, h4⟩
    have hy := HPC.out y (pre_mem hpre).1
    have HZ : Hid (AB (W.alloc (.cells (tdc z24q).toArray 28)) W.heap.size 28 (tdc z24q)) := hide_ (by exact AB.at0 W 28 (tdc z24q))
    have hly := hide_ hy.1
    have H2 := hide_ h2
    have H1 := hide_ h1
    clear h2 h1 hy
    refine wpIn_region_of noOut rfl ?_
    go_wp2_with (refine wpList_storeA rfl (.tmp 11) (.tmp 38) rfl W.heap.size (by simp [Act.eval, Act.put]) (tdc z24q) (tdc y) (by rw [tdc_length, tdc_length, hly.out, z24q_len]) (szC hly.out) (tdc_one _) (by simp [Act.eval, Act.put]) HZ.out ?_)
    have hbW : Below W.heap.size W ((W.alloc (.cells (tdc z24q).toArray 28)).setRow W.heap.size (tdc y).toArray) := (below1 W (.cells (tdc z24q).toArray 28)).trans (below_row _ W.heap.size _ _ (Nat.le_refl _))
    refine ⟨Keep.of_below hbW (fun k hk => ?_), ⟨⟨r, H1.out, H2.out.later hbW hp h9⟩, fun k hk => ⟨(h3 k hk).1, Nat.lt_of_lt_of_le (h3 k hk).2 hbW.size⟩, Nat.le_trans h4 hbW.size⟩, W.heap.size, HZ.out.row, fun h => ?_, ?_, rfl⟩
    · rcases hk with hk | hk
      · exact Nat.lt_of_lt_of_le (hR k hk).2 h4
      · exact (h3 k hk).2
    · have := (h3 _ h).2; omega
    · exact H2.out.b9.lt
  case body =>
    rintro l S pre y a' W hpre ⟨⟨r, h1, h2⟩, h3, h4⟩ ⟨Bv, hBv, hnS, hne, rfl⟩
    have hy := HPC.out y (pre_mem hpre).1
    have hly := hide_ hy.1
    have H2 := hide_ h2
    have H1 := hide_ h1
    have HBv := hide_ hBv
    have hst := mk10 W.drew h2.b0 h2.b2 h2.b9 hBv
    have hln := HN.out
    have hmx : (F : Int) + 1 ≤ (n : Int) := by omega
    have hF1 : (0 : Int) ≤ (F : Int) + 1 := by omega
    have hw1 : IntKind.i64.wrap ((F : Int) + 1) = (F : Int) + 1 := by rw [IntKind.wrap_i64]; have := HN2.out; omega
    have hcs := CubesAt.drop (HVW.out W.drew h2.out.drew) hF
    have q := hide_ (IH.out W.drew y r.2.2.2 _ _ _ hy (by rw [List.length_drop]; have := HN.out; omega) hcs (fun _ a ha => by split at ha <;> cases ha <;> exact (HD.out ⟨g, o, none⟩ rfl : g ≠ p)) h2.bp)
    have hBp : Bv ≠ p := by omega
    have hnS := hide_ hnS
    have h3 := hide_ h3
    have h4 := hide_ h4
    clear h2 h1 hy hBv hcs
    refine wpIn_block ?_
    refine wpIn_seq ?_
    refine wpIn_region_held (noOutT (noOutB noOutP)) (by kernel_rfl) (S := (fun w' => w'.cell? ⟨w.heap.size, 0, none⟩ = some (.pointer (some ⟨p, 0, none⟩)) ∧ w'.cell? ⟨w.heap.size + 1 + 1, 0, none⟩ = some (.slice (some ⟨g, o, none⟩) n cap) ∧ w'.cell? ⟨B9, 0, none⟩ = some (.int .i64 (F : Nat)) ∧ AB w' Bv 28 (tdc y) ∧ AB w' (w.heap.size) 62 [.pointer (some ⟨p, 0, none⟩)] ∧ AB w' (w.heap.size + 1 + 1) 29 [(.slice (some ⟨g, o, none⟩) n cap)] ∧ AB w' B9 3 [.int .i64 (F : Nat)])) (by kernel_rfl) (hst) (fun hHeld => ?_)
    refine takeR (i := 0) (v := ?_) rfl (by kernel_rfl) (by kernel_rfl) (by kernel_rfl) (some 40) rfl (Or.inl ⟨by rfl, ?_⟩) (fun _ _ _ h => h) (by assumption) ?_
    rotate_left
    · intro w hSw; (try dsimp only at hSw); go_simp; (try with_reducible rfl)
    simp only [Act.put, List.setIfInBounds_toArray, List.set_cons_zero, List.set_cons_succ]
    refine takeM Try.underlying28 (i := 1) rfl (by kernel_rfl) (by kernel_rfl) (by kernel_rfl) (some 41) rfl (.tmp 11) rfl (by rfl) (Bv) (0) rfl (tdc y) (szC hly.out) (fun w h => h.2.2.2.1.range) (fun _ _ _ h => h) (by assumption) ?_
    simp only [Act.put, List.setIfInBounds_toArray, List.set_cons_zero, List.set_cons_succ]
    refine takeR (i := 2) (v := ?_) rfl (by kernel_rfl) (by kernel_rfl) (by kernel_rfl) (some 42) rfl (Or.inl ⟨by rfl, ?_⟩) (fun _ _ _ h => h) (by assumption) ?_
    rotate_left
    · intro w hSw; (try dsimp only at hSw); go_simp; (try with_reducible rfl)
    simp only [Act.put, List.setIfInBounds_toArray, List.set_cons_zero, List.set_cons_succ]
    refine takeR (i := 3) (v := ?_) rfl (by kernel_rfl) (by kernel_rfl) (by kernel_rfl) (some 43) rfl (Or.inl ⟨by rfl, ?_⟩) (fun _ _ _ h => h) (by assumption) ?_
    rotate_left
    · intro w hSw; (try dsimp only at hSw); go_simp; (try with_reducible rfl)
    simp only [Act.put, List.setIfInBounds_toArray, List.set_cons_zero, List.set_cons_succ]
    refine takeR (i := 4) (v := ?_) rfl (by kernel_rfl) (by kernel_rfl) (by kernel_rfl) (some 44) rfl (Or.inl ⟨by rfl, ?_⟩) (fun _ _ _ h => h) (by assumption) ?_
    rotate_left
    · intro w hSw; (try dsimp only at hSw); go_simp; (try with_reducible rfl)
    simp only [Act.put, List.setIfInBounds_toArray, List.set_cons_zero, List.set_cons_succ]
    refine takeR (i := 5) (v := ?_) rfl (by kernel_rfl) (by kernel_rfl) (by kernel_rfl) (some 45) rfl (Or.inl ⟨by rfl, ?_⟩) (fun _ _ _ h => h) (by assumption) ?_
    rotate_left
    · intro w hSw; (try dsimp only at hSw); go_simp; (try with_reducible rfl)
    simp only [Act.put, List.setIfInBounds_toArray, List.set_cons_zero, List.set_cons_succ]
    refine wpAnyH_ready (rs := [6]) (by kernel_rfl) (by simp) ?_
    refine AllReadyH.cons rfl (fun K hK => ?_) (AllReadyH.nil)
    go_simp
    refine q.out.mono ?_
    rintro e w4 ⟨rfl, kA, kO, kl⟩
    have A3 : AB w4 (w.heap.size + 1 + 1 + 1) 33 (wdc r.1) := AB.outs (w := W.drew) H2.out.b3 kO (by show ¬ (_ = p); omega)
    have A4 : AB (w4.setRow (w.heap.size + 1 + 1 + 1) (wdc (f y r.2.2.2).1).toArray) (w.heap.size + 1 + 1 + 1 + 1) 4 [.bool r.2.1] := (AB.outs (w := W.drew) H2.out.b4 kO (by show ¬ (_ = p); omega)).row_far _ (by omega)
    have A5 : AB ((w4.setRow (w.heap.size + 1 + 1 + 1) (wdc (f y r.2.2.2).1).toArray).setCell ⟨w.heap.size + 1 + 1 + 1 + 1, 0, none⟩ (.bool (f y r.2.2.2).2.1)) (w.heap.size + 1 + 1 + 1 + 1 + 1) 34 [.int .i64 r.2.2.1] := ((AB.outs (w := W.drew) H2.out.b5 kO (by show ¬ (_ = p); omega)).row_far _ (by omega)).far _ (by omega)
    obtain ⟨c4, f4⟩ := A4.cell (j := 0) rfl
    obtain ⟨c5, f5⟩ := A5.cell (j := 0) rfl
    have A3 := hide_ A3
    have A4 := hide_ A4
    have A5 := hide_ A5
    have kA := hide_ kA
    have kO := hide_ kO
    have kl := hide_ kl
    refine hK.out _ _ (mk10 w4 (hHeld.2.2.2.2.1.outs kO.out (by show ¬ (_ = p); omega)) (hHeld.2.2.2.2.2.1.outs kO.out (by show ¬ (_ = p); omega)) (hHeld.2.2.2.2.2.2.outs kO.out (by show ¬ (_ = p); omega)) (hHeld.2.2.2.1.outs kO.out (by show ¬ (_ = p); omega))) (fun hHeld => ?_)
    clear hK K
    try simp only [Act.put, List.setIfInBounds_toArray, List.set_cons_zero, List.set_cons_succ]
    refine takeR (i := 7) (v := ?_) rfl (by kernel_rfl) (by kernel_rfl) (by kernel_rfl) (some 39) rfl (Or.inl ⟨by rfl, ?_⟩) (fun _ _ _ h => h) (by assumption) ?_
    rotate_left
    · intro w hSw; (try dsimp only at hSw); go_simp; (try with_reducible rfl)
    simp only [Act.put, List.setIfInBounds_toArray, List.set_cons_zero, List.set_cons_succ]
    refine takeR (i := 8) (v := ?_) rfl (by kernel_rfl) (by kernel_rfl) (by kernel_rfl) (some 47) rfl (Or.inl ⟨by rfl, ?_⟩) (fun _ _ _ h => h) (by assumption) ?_
    rotate_left
    · intro w hSw; (try dsimp only at hSw); go_simp; (try with_reducible rfl)
    simp only [Act.put, List.setIfInBounds_toArray, List.set_cons_zero, List.set_cons_succ]
    refine takeR (i := 9) (v := ?_) rfl (by kernel_rfl) (by kernel_rfl) (by kernel_rfl) (some 48) rfl (Or.inl ⟨by rfl, ?_⟩) (fun _ _ _ h => h) (by assumption) ?_
    rotate_left
    · intro w hSw; (try dsimp only at hSw); go_simp; (try with_reducible rfl)
    simp only [Act.put, List.setIfInBounds_toArray, List.set_cons_zero, List.set_cons_succ]
    refine takeR (i := 10) (v := ?_) rfl (by kernel_rfl) (by kernel_rfl) (by kernel_rfl) (some 49) rfl (Or.inl ⟨by rfl, ?_⟩) (fun _ _ _ h => h) (by assumption) ?_
    rotate_left
    · intro w hSw; (try dsimp only at hSw); go_simp; (try with_reducible rfl)
    simp only [Act.put, List.setIfInBounds_toArray, List.set_cons_zero, List.set_cons_succ]
    refine wpAnyH_ready (rs := [11]) (by kernel_rfl) (by simp) ?_
    refine AllReadyH.cons rfl (fun K hK => ?_) (AllReadyH.nil)
    rw [if_pos (by first | rfl | kernel_rfl)]
    refine wp_store_row 33 (.tmp 6) (.tmp 47) rfl (w.heap.size + 1 + 1 + 1) (wdc (f y r.2.2.2).1).toArray (by simp [Act.eval]) (by simp [Act.eval]) 33 (wdc r.1).toArray A3.out (by simpa using szW kl.out) (by simp [wdc_length, kl.out, H2.out.hl]) (all_oneCell_toArray (wdc_one _)) ?_
    refine hK.out _ _ (mk10 (w4.setRow (w.heap.size + 1 + 1 + 1) (wdc (f y r.2.2.2).1).toArray) (hHeld.2.2.2.2.1.row_far _ (by omega)) (hHeld.2.2.2.2.2.1.row_far _ (by omega)) (hHeld.2.2.2.2.2.2.row_far _ (by omega)) (hHeld.2.2.2.1.row_far _ (by omega))) (fun hHeld => ?_)
    clear hK K
    try simp only [Act.put, List.setIfInBounds_toArray, List.set_cons_zero, List.set_cons_succ]
    refine wpAnyH_ready (rs := [12]) (by kernel_rfl) (by simp) ?_
    refine AllReadyH.cons rfl (fun K hK => ?_) (AllReadyH.nil)
    go_simp
    refine hK.out _ _ (mk10 ((w4.setRow (w.heap.size + 1 + 1 + 1) (wdc (f y r.2.2.2).1).toArray).setCell ⟨w.heap.size + 1 + 1 + 1 + 1, 0, none⟩ (.bool (f y r.2.2.2).2.1)) (hHeld.2.2.2.2.1.far _ (by omega)) (hHeld.2.2.2.2.2.1.far _ (by omega)) (hHeld.2.2.2.2.2.2.far _ (by omega)) (hHeld.2.2.2.1.far _ (by omega))) (fun hHeld => ?_)
    clear hK K
    try simp only [Act.put, List.setIfInBounds_toArray, List.set_cons_zero, List.set_cons_succ]
    refine wpAnyH_ready (rs := [13]) (by kernel_rfl) (by simp) ?_
    refine AllReadyH.cons rfl (fun K hK => ?_) (AllReadyH.nil)
    go_simp
    refine hK.out _ _ (mk10 (((w4.setRow (w.heap.size + 1 + 1 + 1) (wdc (f y r.2.2.2).1).toArray).setCell ⟨w.heap.size + 1 + 1 + 1 + 1, 0, none⟩ (.bool (f y r.2.2.2).2.1)).setCell ⟨w.heap.size + 1 + 1 + 1 + 1 + 1, 0, none⟩ (.int .i64 (f y r.2.2.2).2.2.1)) (hHeld.2.2.2.2.1.far _ (by omega)) (hHeld.2.2.2.2.2.1.far _ (by omega)) (hHeld.2.2.2.2.2.2.far _ (by omega)) (hHeld.2.2.2.1.far _ (by omega))) (fun hHeld => ?_)
    clear hK K
    try simp only [Act.put, List.setIfInBounds_toArray, List.set_cons_zero, List.set_cons_succ]
    refine wpAnyH_done (by kernel_rfl) ?_ _
    have oT : Out (fun k => k ≤ B9) W (((w4.setRow (w.heap.size + 1 + 1 + 1) (wdc (f y r.2.2.2).1).toArray).setCell ⟨w.heap.size + 1 + 1 + 1 + 1, 0, none⟩ (.bool (f y r.2.2.2).2.1)).setCell ⟨w.heap.size + 1 + 1 + 1 + 1 + 1, 0, none⟩ (.int .i64 (f y r.2.2.2).2.2.1)) := ((((Out.refl _ W).drew.trans (kO.out.wide (fun k e => by have e : k = p := e; omega))).trans (Out.setRow (g := w.heap.size + 1 + 1 + 1) (by show _ ≤ B9; omega) _)).trans (Out.setCell (p := ⟨w.heap.size + 1 + 1 + 1 + 1, 0, none⟩) (by show _ ≤ B9; dsimp only; omega) _)).trans (Out.setCell (p := ⟨w.heap.size + 1 + 1 + 1 + 1 + 1, 0, none⟩) (by show _ ≤ B9; dsimp only; omega) _)
    have KP : Hid (Keep (Both R S) W (((w4.setRow (w.heap.size + 1 + 1 + 1) (wdc (f y r.2.2.2).1).toArray).setCell ⟨w.heap.size + 1 + 1 + 1 + 1, 0, none⟩ (.bool (f y r.2.2.2).2.1)).setCell ⟨w.heap.size + 1 + 1 + 1 + 1 + 1, 0, none⟩ (.int .i64 (f y r.2.2.2).2.2.1))) := hide_ ⟨oT.size, fun k hk => oT.block k (hk.elim (fun hk => by have := (hR k hk).2; have := h4.out; omega) (fun hk => (h3.out k hk).2)) (by show ¬ (_ ≤ B9); have := hk.elim (fun hk => (hR k hk).1) (fun hk => (h3.out k hk).1); omega)⟩
    have K7 : LK w p B9 m (.slice (some ⟨g, o, none⟩) n cap) F (f y r.2.2.2) (((w4.setRow (w.heap.size + 1 + 1 + 1) (wdc (f y r.2.2.2).1).toArray).setCell ⟨w.heap.size + 1 + 1 + 1 + 1, 0, none⟩ (.bool (f y r.2.2.2).2.1)).setCell ⟨w.heap.size + 1 + 1 + 1 + 1 + 1, 0, none⟩ (.int .i64 (f y r.2.2.2).2.2.1)) := ⟨((H2.out.out.drew.trans kO.out)).below_then (((below_row w4 (w.heap.size + 1 + 1 + 1) w.heap.size _ (by omega)).setCell (p := ⟨w.heap.size + 1 + 1 + 1 + 1, 0, none⟩) (by dsimp only; omega) _).setCell (p := ⟨w.heap.size + 1 + 1 + 1 + 1 + 1, 0, none⟩) (by dsimp only; omega) _), hHeld.2.2.2.2.1, hHeld.2.2.2.2.2.1, ((A3.out.row (cs' := wdc (f y r.2.2.2).1)).far _ (by omega)).far _ (by omega), (A4.out.set (j := 0) _).far _ (by omega), A5.out.set (j := 0) _, hHeld.2.2.2.2.2.2, ((kA.out.row_far _ (by omega)).far _ (by omega)).far _ (by omega), kl.out⟩
    have d4 := (K7.b4.cell (j := 0) rfl).1
    have d5 := (K7.b5.cell (j := 0) rfl).1
    have K7 := hide_ K7
    have oT := hide_ oT
    have HST := hide_ (runP_stop (y := y) H1.out)
    have HGO := hide_ (runP_go (y := y) H1.out)
    clear hHeld c4 f4 c5 f5 A3 A4 A5 kA kO kl H2 H1 q HBv
    generalize (((w4.setRow (w.heap.size + 1 + 1 + 1) (wdc (f y r.2.2.2).1).toArray).setCell ⟨w.heap.size + 1 + 1 + 1 + 1, 0, none⟩ (.bool (f y r.2.2.2).2.1)).setCell ⟨w.heap.size + 1 + 1 + 1 + 1 + 1, 0, none⟩ (.int .i64 (f y r.2.2.2).2.2.1)) = w7 at *
    generalize (f y r.2.2.2) = fr at *
    generalize (if cap = F + 1 then some (⟨g, o, none⟩ : Addr) else some ⟨g, o + (F + 1) * 96, none⟩) = ad2
    refine (?_ : Code.wpIn (Fence.wide.inRound l) 0 Try.prog _ _ _ _)
    refine wpIn_block ?_
    refine wpIn_seq ?_
    refine wpIn_seq ?_
    refine wpIn_region_of (noOutT (noOutT (noOutB (noOutB noOutP)))) rfl ?_
    go_wp2_with fail
    refine wpIn_cond_split (t := fr.2.1) (by rfl) (fun hb => ?_) (fun hb => ?_)
    · refine wpIn_skip ?_
      refine (?_ : Code.wpIn (Fence.wide.inRound l) 0 Try.prog _ _ _ _)
      refine wpIn_cond_true (congrArg Value.bool hb) ?_
      refine wpIn_exit ?_
      exact ⟨KP.out, rfl, ⟨fr, HST.out (by rw [hb]; rfl), K7.out⟩, fun k hk => (h3.out k hk).1⟩
    · refine wpIn_region_of (noOutT (noOutB (noOutB noOutP))) rfl ?_
      go_wp2_with fail
      by_cases he : fr.2.2.1 = 0
      · refine wpIn_cond_false (congrArg Value.bool (by simp [he])) ?_
        refine wpIn_exit ?_
        exact ⟨KP.out, ⟨fr, HGO.out (by rw [hb, he]; rfl), K7.out⟩, fun k hk => ⟨(h3.out k hk).1, Nat.lt_of_lt_of_le (h3.out k hk).2 oT.out.size⟩, Nat.le_trans h4.out oT.out.size⟩
      · refine wpIn_cond_true (congrArg Value.bool (by simp [he])) ?_
        refine wpIn_exit ?_
        exact ⟨KP.out, rfl, ⟨fr, HST.out (by rw [hb, decide_eq_false he]; rfl), K7.out⟩, fun k hk => (h3.out k hk).1⟩
  case done =>
    rintro D1 S W hD hSD ⟨⟨r, h1, h2⟩, h3, h4⟩ hK
    have hr : runP f PS (z24h, false, 0, s1) = r := by have := h1 []; rw [List.append_nil] at this; exact this
    have hD9 : B9 < D1 := (h3 D1 hSD).1
    clear h1 h3 h4
    have hDW : D1 < W.heap.size := (Array.getElem?_eq_some_iff.1 hK).1
    have HK := hide_ hK
    have H2 := hide_ h2
    have hst := mk13 W.drew h2.b3 h2.b4 h2.b5
    clear h2 hK
    go_wp2_with fail
    refine wp_region_heldQ (S := (fun w' => w'.cell? ⟨w.heap.size + 1 + 1 + 1 + 1, 0, none⟩ = some (.bool r.2.1) ∧ w'.frozen? ⟨w.heap.size + 1 + 1 + 1 + 1, 0, none⟩ = false ∧ w'.cell? ⟨w.heap.size + 1 + 1 + 1 + 1 + 1, 0, none⟩ = some (.int .i64 r.2.2.1) ∧ w'.frozen? ⟨w.heap.size + 1 + 1 + 1 + 1 + 1, 0, none⟩ = false ∧ AB w' (w.heap.size + 1 + 1 + 1) 33 (wdc r.1) ∧ AB w' (w.heap.size + 1 + 1 + 1 + 1) 4 [.bool r.2.1] ∧ AB w' (w.heap.size + 1 + 1 + 1 + 1 + 1) 34 [.int .i64 r.2.2.1])) (by kernel_rfl) (hst) (fun hHeld => ?_)
    refine takeM Try.underlying33 (i := 0) rfl (by kernel_rfl) (by kernel_rfl) (by kernel_rfl) (some 54) rfl (.tmp 6) rfl (by rfl) (w.heap.size + 1 + 1 + 1) 0 rfl (wdc r.1) (szW H2.out.hl) (fun w h => h.2.2.2.2.1.range) (fun _ _ _ h => h) (by assumption) ?_
    simp only [Act.put, List.setIfInBounds_toArray, List.set_cons_zero, List.set_cons_succ]
    refine takeR (i := 1) (v := ?_) rfl (by kernel_rfl) (by kernel_rfl) (by kernel_rfl) (some 55) rfl (Or.inl ⟨by rfl, ?_⟩) (fun _ _ _ h => h) (by assumption) ?_
    rotate_left
    · intro w hSw; (try dsimp only at hSw); go_simp; (try with_reducible rfl)
    simp only [Act.put, List.setIfInBounds_toArray, List.set_cons_zero, List.set_cons_succ]
    refine takeR (i := 2) (v := ?_) rfl (by kernel_rfl) (by kernel_rfl) (by kernel_rfl) (some 56) rfl (Or.inl ⟨by rfl, ?_⟩) (fun _ _ _ h => h) (by assumption) ?_
    rotate_left
    · intro w hSw; (try dsimp only at hSw); go_simp; (try with_reducible rfl)
    simp only [Act.put, List.setIfInBounds_toArray, List.set_cons_zero, List.set_cons_succ]
    refine wpAnyH_ready (rs := [3]) (by kernel_rfl) (by simp) ?_
    refine AllReadyH.cons rfl (fun K hK => ?_) (AllReadyH.nil)
    rw [if_pos (by first | rfl | kernel_rfl)]
    refine wp_store_row 33 (.tmp 6) (.tmp 54) rfl (w.heap.size + 1 + 1 + 1) (wdc r.1).toArray (by simp [Act.eval]) (by simp [Act.eval]) 33 (wdc r.1).toArray hHeld.2.2.2.2.1 (by simpa using szW H2.out.hl) rfl (all_oneCell_toArray (wdc_one _)) ?_
    refine hK.out _ _ (mk13 (W.drew.setRow (w.heap.size + 1 + 1 + 1) (wdc r.1).toArray) hHeld.2.2.2.2.1.row (hHeld.2.2.2.2.2.1.row_far _ (by omega)) (hHeld.2.2.2.2.2.2.row_far _ (by omega))) (fun hHeld => ?_)
    clear hK K
    try simp only [Act.put, List.setIfInBounds_toArray, List.set_cons_zero, List.set_cons_succ]
    refine wpAnyH_ready (rs := [4]) (by kernel_rfl) (by simp) ?_
    refine AllReadyH.cons rfl (fun K hK => ?_) (AllReadyH.nil)
    go_simp
    refine hK.out _ _ (mk13 ((W.drew.setRow (w.heap.size + 1 + 1 + 1) (wdc r.1).toArray).setCell ⟨w.heap.size + 1 + 1 + 1 + 1, 0, none⟩ (.bool r.2.1)) (hHeld.2.2.2.2.1.far _ (by omega)) (hHeld.2.2.2.2.2.1.set (j := 0) _) (hHeld.2.2.2.2.2.2.far _ (by omega))) (fun hHeld => ?_)
    clear hK K
    try simp only [Act.put, List.setIfInBounds_toArray, List.set_cons_zero, List.set_cons_succ]
    refine wpAnyH_ready (rs := [5]) (by kernel_rfl) (by simp) ?_
    refine AllReadyH.cons rfl (fun K hK => ?_) (AllReadyH.nil)
    go_simp
    refine hK.out _ _ (mk13 (((W.drew.setRow (w.heap.size + 1 + 1 + 1) (wdc r.1).toArray).setCell ⟨w.heap.size + 1 + 1 + 1 + 1, 0, none⟩ (.bool r.2.1)).setCell ⟨w.heap.size + 1 + 1 + 1 + 1 + 1, 0, none⟩ (.int .i64 r.2.2.1)) (hHeld.2.2.2.2.1.far _ (by omega)) (hHeld.2.2.2.2.2.1.far _ (by omega)) (hHeld.2.2.2.2.2.2.set (j := 0) _)) (fun hHeld => ?_)
    clear hK K
    try simp only [Act.put, List.setIfInBounds_toArray, List.set_cons_zero, List.set_cons_succ]
    refine wpAnyH_done (by kernel_rfl) ?_ _
    go_wp2_with fail
    rw [Exit.noGoto_ret]
    have o8 : Out (fun k => k ≤ B9) W (((W.drew.setRow (w.heap.size + 1 + 1 + 1) (wdc r.1).toArray).setCell ⟨w.heap.size + 1 + 1 + 1 + 1, 0, none⟩ (.bool r.2.1)).setCell ⟨w.heap.size + 1 + 1 + 1 + 1 + 1, 0, none⟩ (.int .i64 r.2.2.1)) := (((Out.refl _ W).drew.trans (Out.setRow (g := w.heap.size + 1 + 1 + 1) (by show _ ≤ B9; omega) _)).trans (Out.setCell (p := ⟨w.heap.size + 1 + 1 + 1 + 1, 0, none⟩) (by show _ ≤ B9; dsimp only; omega) _)).trans (Out.setCell (p := ⟨w.heap.size + 1 + 1 + 1 + 1 + 1, 0, none⟩) (by show _ ≤ B9; dsimp only; omega) _)
    have hK8 : (((W.drew.setRow (w.heap.size + 1 + 1 + 1) (wdc r.1).toArray).setCell ⟨w.heap.size + 1 + 1 + 1 + 1, 0, none⟩ (.bool r.2.1)).setCell ⟨w.heap.size + 1 + 1 + 1 + 1 + 1, 0, none⟩ (.int .i64 r.2.2.1)).heap[D1]? = some (.deferred (some [])) := (o8.block D1 hDW (by show ¬ (_ ≤ B9); omega)).trans HK.out
    have oP : Out (fun k => k = D1) (((W.drew.setRow (w.heap.size + 1 + 1 + 1) (wdc r.1).toArray).setCell ⟨w.heap.size + 1 + 1 + 1 + 1, 0, none⟩ (.bool r.2.1)).setCell ⟨w.heap.size + 1 + 1 + 1 + 1 + 1, 0, none⟩ (.int .i64 r.2.2.1)) ((((W.drew.setRow (w.heap.size + 1 + 1 + 1) (wdc r.1).toArray).setCell ⟨w.heap.size + 1 + 1 + 1 + 1, 0, none⟩ (.bool r.2.1)).setCell ⟨w.heap.size + 1 + 1 + 1 + 1 + 1, 0, none⟩ (.int .i64 r.2.2.1)).putObj D1 (.deferred none)) := Out.putObj _ rfl
    have b8 : Below w.heap.size W (((W.drew.setRow (w.heap.size + 1 + 1 + 1) (wdc r.1).toArray).setCell ⟨w.heap.size + 1 + 1 + 1 + 1, 0, none⟩ (.bool r.2.1)).setCell ⟨w.heap.size + 1 + 1 + 1 + 1 + 1, 0, none⟩ (.int .i64 r.2.2.1)) := (((Below.refl _ W).drew.trans (below_row W.drew (w.heap.size + 1 + 1 + 1) w.heap.size _ (by omega))).setCell (p := ⟨w.heap.size + 1 + 1 + 1 + 1, 0, none⟩) (by dsimp only; omega) _).setCell (p := ⟨w.heap.size + 1 + 1 + 1 + 1 + 1, 0, none⟩) (by dsimp only; omega) _
    refine marksR (marks_ret hK8 (results_L _ _ (w.heap.size + 1 + 1 + 1) (w.heap.size + 1 + 1 + 1 + 1) (w.heap.size + 1 + 1 + 1 + 1 + 1) r.1 r.2.1 r.2.2.1 H2.out.hl rfl rfl rfl ?_ ?_ ?_) ⟨?_, ?_, ?_⟩)
    · exact hHeld.2.2.2.2.1.outs oP (by show ¬ (_ = D1); omega)
    · exact hHeld.2.2.2.2.2.1.outs oP (by show ¬ (_ = D1); omega)
    · exact hHeld.2.2.2.2.2.2.outs oP (by show ¬ (_ = D1); omega)
    · rw [hr]
    · rw [hr]
      have bpp : AB W.drew p 51 [.int .i64 m, .int .i64 r.2.2.2] := H2.out.bp
      exact (((bpp.row_far _ (by omega)).far _ (by omega)).far _ (by omega)).outs oP (by show ¬ (_ = D1); omega)
    · exact H2.out.out.below_then (oP.below b8 H2.out.out.size (fun k e => by have e : k = D1 := e; omega))
  case stop =>
    rintro D1 S cd pre W hD hSD hpre ⟨rfl, ⟨r, h1, h2⟩, h3⟩ hK
    have hr : runP f PS (z24h, false, 0, s1) = r := by obtain ⟨rest, hrest⟩ := hpre; rw [← hrest]; exact h1 rest
    have hD9 : B9 < D1 := h3 D1 hSD
    clear h1 h3 hpre
    refine wp_exit ?_
    have hDW : D1 < W.heap.size := (Array.getElem?_eq_some_iff.1 hK).1
    have HK := hide_ hK
    have H2 := hide_ h2
    have hst := mk13 W.drew h2.b3 h2.b4 h2.b5
    clear h2 hK
    go_wp2_with fail
    refine wp_region_heldQ (S := (fun w' => w'.cell? ⟨w.heap.size + 1 + 1 + 1 + 1, 0, none⟩ = some (.bool r.2.1) ∧ w'.frozen? ⟨w.heap.size + 1 + 1 + 1 + 1, 0, none⟩ = false ∧ w'.cell? ⟨w.heap.size + 1 + 1 + 1 + 1 + 1, 0, none⟩ = some (.int .i64 r.2.2.1) ∧ w'.frozen? ⟨w.heap.size + 1 + 1 + 1 + 1 + 1, 0, none⟩ = false ∧ AB w' (w.heap.size + 1 + 1 + 1) 33 (wdc r.1) ∧ AB w' (w.heap.size + 1 + 1 + 1 + 1) 4 [.bool r.2.1] ∧ AB w' (w.heap.size + 1 + 1 + 1 + 1 + 1) 34 [.int .i64 r.2.2.1])) (by kernel_rfl) (hst) (fun hHeld => ?_)
    refine takeM Try.underlying33 (i := 0) rfl (by kernel_rfl) (by kernel_rfl) (by kernel_rfl) (some 54) rfl (.tmp 6) rfl (by rfl) (w.heap.size + 1 + 1 + 1) 0 rfl (wdc r.1) (szW H2.out.hl) (fun w h => h.2.2.2.2.1.range) (fun _ _ _ h => h) (by assumption) ?_
    simp only [Act.put, List.setIfInBounds_toArray, List.set_cons_zero, List.set_cons_succ]
    refine takeR (i := 1) (v := ?_) rfl (by kernel_rfl) (by kernel_rfl) (by kernel_rfl) (some 55) rfl (Or.inl ⟨by rfl, ?_⟩) (fun _ _ _ h => h) (by assumption) ?_
    rotate_left
    · intro w hSw; (try dsimp only at hSw); go_simp; (try with_reducible rfl)
    simp only [Act.put, List.setIfInBounds_toArray, List.set_cons_zero, List.set_cons_succ]
    refine takeR (i := 2) (v := ?_) rfl (by kernel_rfl) (by kernel_rfl) (by kernel_rfl) (some 56) rfl (Or.inl ⟨by rfl, ?_⟩) (fun _ _ _ h => h) (by assumption) ?_
    rotate_left
    · intro w hSw; (try dsimp only at hSw); go_simp; (try with_reducible rfl)
    simp only [Act.put, List.setIfInBounds_toArray, List.set_cons_zero, List.set_cons_succ]
    refine wpAnyH_ready (rs := [3]) (by kernel_rfl) (by simp) ?_
    refine AllReadyH.cons rfl (fun K hK => ?_) (AllReadyH.nil)
    rw [if_pos (by first | rfl | kernel_rfl)]
    refine wp_store_row 33 (.tmp 6) (.tmp 54) rfl (w.heap.size + 1 + 1 + 1) (wdc r.1).toArray (by simp [Act.eval]) (by simp [Act.eval]) 33 (wdc r.1).toArray hHeld.2.2.2.2.1 (by simpa using szW H2.out.hl) rfl (all_oneCell_toArray (wdc_one _)) ?_
    refine hK.out _ _ (mk13 (W.drew.setRow (w.heap.size + 1 + 1 + 1) (wdc r.1).toArray) hHeld.2.2.2.2.1.row (hHeld.2.2.2.2.2.1.row_far _ (by omega)) (hHeld.2.2.2.2.2.2.row_far _ (by omega))) (fun hHeld => ?_)
    clear hK K
    try simp only [Act.put, List.setIfInBounds_toArray, List.set_cons_zero, List.set_cons_succ]
    refine wpAnyH_ready (rs := [4]) (by kernel_rfl) (by simp) ?_
    refine AllReadyH.cons rfl (fun K hK => ?_) (AllReadyH.nil)
    go_simp
    refine hK.out _ _ (mk13 ((W.drew.setRow (w.heap.size + 1 + 1 + 1) (wdc r.1).toArray).setCell ⟨w.heap.size + 1 + 1 + 1 + 1, 0, none⟩ (.bool r.2.1)) (hHeld.2.2.2.2.1.far _ (by omega)) (hHeld.2.2.2.2.2.1.set (j := 0) _) (hHeld.2.2.2.2.2.2.far _ (by omega))) (fun hHeld => ?_)
    clear hK K
    try simp only [Act.put, List.setIfInBounds_toArray, List.set_cons_zero, List.set_cons_succ]
    refine wpAnyH_ready (rs := [5]) (by kernel_rfl) (by simp) ?_
    refine AllReadyH.cons rfl (fun K hK => ?_) (AllReadyH.nil)
    go_simp
    refine hK.out _ _ (mk13 (((W.drew.setRow (w.heap.size + 1 + 1 + 1) (wdc r.1).toArray).setCell ⟨w.heap.size + 1 + 1 + 1 + 1, 0, none⟩ (.bool r.2.1)).setCell ⟨w.heap.size + 1 + 1 + 1 + 1 + 1, 0, none⟩ (.int .i64 r.2.2.1)) (hHeld.2.2.2.2.1.far _ (by omega)) (hHeld.2.2.2.2.2.1.far _ (by omega)) (hHeld.2.2.2.2.2.2.set (j := 0) _)) (fun hHeld => ?_)
    clear hK K
    try simp only [Act.put, List.setIfInBounds_toArray, List.set_cons_zero, List.set_cons_succ]
    refine wpAnyH_done (by kernel_rfl) ?_ _
    go_wp2_with fail
    rw [Exit.noGoto_ret]
    have o8 : Out (fun k => k ≤ B9) W (((W.drew.setRow (w.heap.size + 1 + 1 + 1) (wdc r.1).toArray).setCell ⟨w.heap.size + 1 + 1 + 1 + 1, 0, none⟩ (.bool r.2.1)).setCell ⟨w.heap.size + 1 + 1 + 1 + 1 + 1, 0, none⟩ (.int .i64 r.2.2.1)) := (((Out.refl _ W).drew.trans (Out.setRow (g := w.heap.size + 1 + 1 + 1) (by show _ ≤ B9; omega) _)).trans (Out.setCell (p := ⟨w.heap.size + 1 + 1 + 1 + 1, 0, none⟩) (by show _ ≤ B9; dsimp only; omega) _)).trans (Out.setCell (p := ⟨w.heap.size + 1 + 1 + 1 + 1 + 1, 0, none⟩) (by show _ ≤ B9; dsimp only; omega) _)
    have hK8 : (((W.drew.setRow (w.heap.size + 1 + 1 + 1) (wdc r.1).toArray).setCell ⟨w.heap.size + 1 + 1 + 1 + 1, 0, none⟩ (.bool r.2.1)).setCell ⟨w.heap.size + 1 + 1 + 1 + 1 + 1, 0, none⟩ (.int .i64 r.2.2.1)).heap[D1]? = some (.deferred (some [])) := (o8.block D1 hDW (by show ¬ (_ ≤ B9); omega)).trans HK.out
    have oP : Out (fun k => k = D1) (((W.drew.setRow (w.heap.size + 1 + 1 + 1) (wdc r.1).toArray).setCell ⟨w.heap.size + 1 + 1 + 1 + 1, 0, none⟩ (.bool r.2.1)).setCell ⟨w.heap.size + 1 + 1 + 1 + 1 + 1, 0, none⟩ (.int .i64 r.2.2.1)) ((((W.drew.setRow (w.heap.size + 1 + 1 + 1) (wdc r.1).toArray).setCell ⟨w.heap.size + 1 + 1 + 1 + 1, 0, none⟩ (.bool r.2.1)).setCell ⟨w.heap.size + 1 + 1 + 1 + 1 + 1, 0, none⟩ (.int .i64 r.2.2.1)).putObj D1 (.deferred none)) := Out.putObj _ rfl
    have b8 : Below w.heap.size W (((W.drew.setRow (w.heap.size + 1 + 1 + 1) (wdc r.1).toArray).setCell ⟨w.heap.size + 1 + 1 + 1 + 1, 0, none⟩ (.bool r.2.1)).setCell ⟨w.heap.size + 1 + 1 + 1 + 1 + 1, 0, none⟩ (.int .i64 r.2.2.1)) := (((Below.refl _ W).drew.trans (below_row W.drew (w.heap.size + 1 + 1 + 1) w.heap.size _ (by omega))).setCell (p := ⟨w.heap.size + 1 + 1 + 1 + 1, 0, none⟩) (by dsimp only; omega) _).setCell (p := ⟨w.heap.size + 1 + 1 + 1 + 1 + 1, 0, none⟩) (by dsimp only; omega) _
    refine marksR (marks_ret hK8 (results_L _ _ (w.heap.size + 1 + 1 + 1) (w.heap.size + 1 + 1 + 1 + 1) (w.heap.size + 1 + 1 + 1 + 1 + 1) r.1 r.2.1 r.2.2.1 H2.out.hl rfl rfl rfl ?_ ?_ ?_) ⟨?_, ?_, ?_⟩)
    · exact hHeld.2.2.2.2.1.outs oP (by show ¬ (_ = D1); omega)
    · exact hHeld.2.2.2.2.2.1.outs oP (by show ¬ (_ = D1); omega)
    · exact hHeld.2.2.2.2.2.2.outs oP (by show ¬ (_ = D1); omega)
    · rw [hr]
    · rw [hr]
      have bpp : AB W.drew p 51 [.int .i64 m, .int .i64 r.2.2.2] := H2.out.bp
      exact (((bpp.row_far _ (by omega)).far _ (by omega)).far _ (by omega)).outs oP (by show ¬ (_ = D1); omega)
    · exact H2.out.out.below_then (oP.below b8 H2.out.out.size (fun k e => by have e : k = D1 := e; omega))

end Go.Proofs.Ytbdbehdgpmfelaa
