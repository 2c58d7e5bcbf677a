import Derived.Test.YthhijfphfcmniaaGreatXae
import Derived.Test.YthhijfphfcmniaaGreatProg
import Derived.Test.YthhijfphfcmniaaGreatXde
import Derived.Test.YthhijfphfcmniaaGreatXee
import Derived.Test.YthhijfphfcmniaaGreatXce
import Derived.WalkKit
import Derived.WalkSpells
import Derived.WalkLawsBesides
import Derived.Below
import Derived.Handy
import Derived.BigQuiet
import Derived.BigRegion
import Derived.Deep.QuietTactic
import Derived.Deep.RegionHeld3
import Derived.Deep.RegionLaw
import Derived.Deep.RegionLawGrows
import Derived.Laws.AppendOwn
import Derived.Laws.AppendOwnNone
import Derived.Laws.BitsAllLaws
import Derived.Laws.BitsLemmas
import Derived.Laws.CopyOwn
import Derived.Laws.OwnMore
import Derived.Laws.Rows
import Derived.Laws.StructEq
import Derived.OpenShut
import Derived.ProofKit
import Derived.RegionTactic
import Derived.WalkSmall
set_option maxRecDepth 100000
set_option maxHeartbeats 8000000
set_option linter.unusedVariables false
set_option linter.unusedSimpArgs false
namespace Go.Proofs.YthhijfphfcmniaaGreat
section
open Go Go.RowKit
def bev (l : List Int) : Nat := l.foldl (fun a z => a * 256 + z.toNat) 0
theorem foldl_bev (l : List Int) : ∀ n, l.foldl (fun a z => a * 256 + z.toNat) n = n * 256 ^ l.length + bev l := by
  induction l with
  | nil => intro n; simp [bev]
  | cons z l ih =>
    intro n
    unfold bev
    simp only [List.foldl_cons, List.length_cons]
    rw [ih, ih (0 * 256 + z.toNat), Nat.pow_succ]
    simp only [Nat.add_mul, Nat.zero_mul, Nat.zero_add]
    rw [Nat.mul_assoc, Nat.mul_comm 256, Nat.add_assoc]
theorem bev_app (x y : List Int) : bev (x ++ y) = bev x * 256 ^ y.length + bev y := by
  unfold bev
  rw [List.foldl_append, foldl_bev]
  rfl
theorem bev_snoc (l : List Int) (z : Int) : bev (l ++ [z]) = bev l * 256 + z.toNat := by
  rw [bev_app]; simp [bev]
theorem bev_lt (l : List Int) (h : isB l) : bev l < 256 ^ l.length := by
  induction l with
  | nil => simp [bev]
  | cons z l ih =>
    have hz := h z (by simp)
    have := ih (fun y hy => h y (by simp [hy]))
    have e : bev (z :: l) = z.toNat * 256 ^ l.length + bev l := by
      show List.foldl _ (0 * 256 + z.toNat) l = _
      rw [foldl_bev]; simp
    rw [e, List.length_cons, Nat.pow_succ]
    have h1 : z.toNat ≤ 255 := by omega
    have h2 : z.toNat * 256 ^ l.length ≤ 255 * 256 ^ l.length := Nat.mul_le_mul_right _ h1
    omega
theorem bev_zeros (d : Nat) (l : List Int) : bev (List.replicate d 0 ++ l) = bev l := by
  rw [bev_app]
  have : bev (List.replicate d 0) = 0 := by
    induction d with
    | zero => rfl
    | succ d ih => rw [List.replicate_succ', bev_snoc, ih]; rfl
  rw [this]; simp
def gok (l : List Int) (size : Int) : Bool := decide (0 ≤ size) && (decide (size ≤ 16) && decide (size ≤ (l.length : Int)))
def gv (l : List Int) (size : Int) : Nat := if gok l size then bev (l.take size.toNat) else 0
theorem isB_take {l : List Int} (h : isB l) (k : Nat) : isB (l.take k) := fun z hz => h z (List.mem_of_mem_take hz)
theorem shl8_or (x : Nat) (z : Int) (hx : x < 72057594037927936) (hz : 0 ≤ z ∧ z ≤ 255) : bits .or .u64 (IntKind.u64.wrap ((x : Int) * 256)) z = ((x * 256 + z.toNat : Nat) : Int) := by
  have e : IntKind.u64.wrap ((x : Int) * 256) = ((x * 256 : Nat) : Int) := by rw [IntKind.wrap_u64]; omega
  obtain ⟨n, rfl⟩ := Int.eq_ofNat_of_zero_le hz.1
  rw [e, u64_or_nat _ _ (by omega) (by omega), nat_join 8 (x * 256) n (by omega) (by omega)]
  simp
theorem take_snoc_z (L : List Int) (k : Nat) (z : Int) (h : L[k]? = some z) : L.take (k + 1) = L.take k ++ [z] := by
  rw [List.take_add_one, h]; rfl
theorem bev_take_lt (L : List Int) (hL : isB L) (k : Nat) (hk : k ≤ 7) : bev (L.take k) < 72057594037927936 := by
  have h1 := bev_lt (L.take k) (isB_take hL k)
  have h2 : (L.take k).length ≤ 7 := by simp; omega
  have h3 : 256 ^ (L.take k).length ≤ 256 ^ 7 := Nat.pow_le_pow_right (by decide) h2
  have h4 : (256 : Nat) ^ 7 = 72057594037927936 := by decide
  omega
theorem read_step (L : List Int) (hL : isB L) (k : Nat) (hk : k < 8) (hl : 8 ≤ L.length) : ∃ z x y, L[k]? = some z ∧ IntKind.u64.wrap z = z ∧ bev (L.take k) = x ∧ bev (L.take (k + 1)) = y ∧ bits .or .u64 (IntKind.u64.wrap ((x : Int) * 256)) z = (y : Int) := by
  have h : L[k]? = some L[k] := List.getElem?_eq_getElem (by omega)
  have hz := hL _ (List.mem_of_getElem? h)
  refine ⟨L[k], _, _, h, by rw [IntKind.wrap_u64]; omega, rfl, rfl, ?_⟩
  rw [take_snoc_z L k _ h, bev_snoc, shl8_or _ _ (bev_take_lt L hL k (by omega)) hz]
theorem wread_core (L M : List Int) (hL : isB L) (hM : isB M) (h8 : L.length = 8) (k8 : M.length = 8) (w : World) :
    Calls Tryz.prog 123 #[.agg (u8s (L ++ M)).toArray] w fun e w' => e = .returned (.agg #[.int .u64 (bev L : Int), .int .u64 (bev M : Int)]) ∧ Below w.heap.size w w' := by
  have H8 := h_ h8
  have K8 := h_ k8
  clear h8 k8
  have HL := h_ hL
  have HM := h_ hM
  clear hL hM
  obtain ⟨cs, hcs⟩ : ∃ cs, cs = (u8s (L ++ M)).toArray := ⟨_, rfl⟩
  have HC := h_ hcs
  rw [← hcs]
  clear hcs
  go_enter Tryz.func123, Tryz.ntmps123
  go_wp2
  go_loopw [5] (fun i wr => ∃ k : Nat, k ≤ 8 ∧ i = .int .i64 k ∧ Hid (Two wr (w.heap.size + 1) 0 0) ∧ Hid (Two wr (w.heap.size + 1 + 1) (bev (L.take k)) (bev (M.take k))) ∧ Below (w.heap.size + 1) (w.alloc (.cells cs 141)) wr) (fun i _ => 8 - (intOf i).toNat)
  case atStart =>
    refine ⟨0, Nat.zero_le _, rfl, ?_, ?_, ?_⟩
    · exact ⟨by simp [go_sem], by simp [go_sem], by simp [go_sem], by simp [go_sem]⟩
    · exact ⟨by simp [go_sem, bev], by simp [go_sem, bev], by simp [go_sem], by simp [go_sem]⟩
    · go_grown
  case round =>
    obtain ⟨k, hk, rfl, T0, T1, bel⟩ := hrel
    have hsz := bel.size
    simp only [World.size_alloc] at hsz
    by_cases hkt : k < 8
    · obtain ⟨z, x, x', hz, wz, ex, ex', r1⟩ := read_step L HL.out k hkt (by have := H8.out; omega)
      obtain ⟨y, u, u', hy, wy, eu, eu', r2⟩ := read_step M HM.out k hkt (by have := K8.out; omega)
      have c0 : wr.cell? ⟨w.heap.size, k, none⟩ = some (.int .u8 z) := by
        rw [bel.cell (by simp), World.cell?_alloc_new, HC.out]
        simp only [List.getElem?_toArray, u8s, List.getElem?_map]
        rw [List.getElem?_append_left (by have := H8.out; omega), hz]; rfl
      have c1 : wr.cell? ⟨w.heap.size, 8 + k, none⟩ = some (.int .u8 y) := by
        rw [bel.cell (by simp), World.cell?_alloc_new, HC.out]
        simp only [List.getElem?_toArray, u8s, List.getElem?_map]
        rw [List.getElem?_append_right (by have := H8.out; omega), show 8 + k - L.length = k by have := H8.out; omega, hy]; rfl
      rw [ex, eu] at T1
      have EX := h_ ex'
      have EU := h_ eu'
      clear ex ex' eu eu' hz hy
      obtain ⟨d0, d1, f0, f1⟩ := T1.out
      have hk1 : (0 : Int) ≤ (k : Int) := by omega
      have hk2 : (k : Int) < 8 := by omega
      go_wp2_with fail
      go_region
      go_wp2_with fail
      go_region
      have t0 : Two wr (w.heap.size + 1) 0 0 := T0.out
      have t1 : Two wr (w.heap.size + 1 + 1) x u := T1.out
      have T0' := h_ (((t0.far (f := w.heap.size + 1 + 1) (u := x') (v := u') (by omega)).later ((Below.refl _ _).drew)).later ((Below.refl _ _).drew))
      have T1' := h_ (((t1.set x' u').later ((Below.refl _ _).drew)).later ((Below.refl _ _).drew))
      clear t0 t1 T0 T1 d0 d1 f0 f1 c0 c1 r1 r2 wz wy
      go_wp2
      go_roundw
      case rel => exact ⟨k + 1, by omega, by go_num, T0', by show Two _ _ _ _; rw [EX.out, EU.out]; exact T1'.out, (((bel.setCell (by simp) _).setCell (by simp) _).drew).drew⟩
      case measure => simp [intOf]; omega
    · have he : k = 8 := by omega
      subst he
      obtain ⟨c0, c1, f0, f1⟩ := T1.out
      obtain ⟨d0, d1, g0, g1⟩ := T0.out
      rw [List.take_of_length_le (by have := H8.out; omega)] at c0
      rw [List.take_of_length_le (by have := K8.out; omega)] at c1
      obtain ⟨s0, s1⟩ := set2 (u := .int .u64 (bev L : Int)) (v := .int .u64 (bev M : Int)) d0 d1
      clear T0 T1
      go_wp2
      exact bodyPost_ret (v := .agg #[.int .u64 (bev L : Int), .int .u64 (bev M : Int)]) (by simp [results, Tryz.results123, go_sem, s0, s1]) rfl ⟨rfl, ((by go_grown : Below w.heap.size w (w.alloc (.cells cs 141))).trans (bel.mono (by omega))).setCell (by simp) _ |>.setCell (by simp) _⟩
theorem gok_out {l : List Int} {size : Int} (h : gok l size = false) : size < 0 ∨ 16 < size ∨ (l.length : Int) < size := by
  simp [gok] at h
  omega
theorem gok_in {l : List Int} {size : Int} (h : gok l size = true) : 0 ≤ size ∧ size ≤ 16 ∧ size ≤ (l.length : Int) := by
  simp [gok] at h
  omega
theorem wget_no (a : Option Addr) (cap : Nat) (l : List Int) (size : Int) (w : World) (hm : l.length ≤ 2 ^ 63 - 1) (h : gok l size = false) :
    Calls Tryz.prog 92 #[.slice a l.length cap, .int .i64 size] w fun e w' => e = .returned (.tuple #[.agg #[.int .u64 0, .int .u64 0], .bool false]) ∧ Below w.heap.size w w' := by
  have hd := gok_out h
  clear h
  by_cases h1 : size < 0
  · go_enter Tryz.func92, Tryz.ntmps92
    go_wp2
    exact bodyPost_ret (v := .tuple #[.agg #[.int .u64 0, .int .u64 0], .bool false]) (by simp [results, Tryz.results92, go_sem]) rfl ⟨rfl, by go_grown⟩
  · by_cases h2 : 16 < size
    · go_enter Tryz.func92, Tryz.ntmps92
      go_wp2
      exact bodyPost_ret (v := .tuple #[.agg #[.int .u64 0, .int .u64 0], .bool false]) (by simp [results, Tryz.results92, go_sem]) rfl ⟨rfl, by go_grown⟩
    · have h3 : (l.length : Int) < size := by omega
      clear hd
      go_enter Tryz.func92, Tryz.ntmps92
      go_wp2
      exact bodyPost_ret (v := .tuple #[.agg #[.int .u64 0, .int .u64 0], .bool false]) (by simp [results, Tryz.results92, go_sem]) rfl ⟨rfl, by go_grown⟩
theorem rwget_no (a : Option Addr) (cap : Nat) (l : List Int) (size : Int) (w : World) (hm : l.length ≤ 2 ^ 63 - 1) (h : gok l size = false) :
    Calls Tryz.prog 95 #[.slice a l.length cap, .int .i64 size] w fun e w' => e = .returned (.tuple #[.agg #[.int .u64 0, .int .u64 0], .bool false]) ∧ Below w.heap.size w w' := by
  have hd := gok_out h
  clear h
  by_cases h1 : size < 0
  · go_enter Tryz.func95, Tryz.ntmps95
    go_wp2
    exact bodyPost_ret (v := .tuple #[.agg #[.int .u64 0, .int .u64 0], .bool false]) (by simp [results, Tryz.results95, go_sem]) rfl ⟨rfl, by go_grown⟩
  · by_cases h2 : 16 < size
    · go_enter Tryz.func95, Tryz.ntmps95
      go_wp2
      exact bodyPost_ret (v := .tuple #[.agg #[.int .u64 0, .int .u64 0], .bool false]) (by simp [results, Tryz.results95, go_sem]) rfl ⟨rfl, by go_grown⟩
    · have h3 : (l.length : Int) < size := by omega
      clear hd
      go_enter Tryz.func95, Tryz.ntmps95
      go_wp2
      exact bodyPost_ret (v := .tuple #[.agg #[.int .u64 0, .int .u64 0], .bool false]) (by simp [results, Tryz.results95, go_sem]) rfl ⟨rfl, by go_grown⟩
def zero16 : List Value := [.int .u8 0, .int .u8 0, .int .u8 0, .int .u8 0, .int .u8 0, .int .u8 0, .int .u8 0, .int .u8 0, .int .u8 0, .int .u8 0, .int .u8 0, .int .u8 0, .int .u8 0, .int .u8 0, .int .u8 0, .int .u8 0]
def z16 (l : List Int) (s : Nat) : List Int := List.replicate (16 - s) 0 ++ l.take s
theorem z16_length (l : List Int) (s : Nat) (hs : s ≤ 16) (hl : s ≤ l.length) : (z16 l s).length = 16 := by
  unfold z16; simp; omega
theorem z16_isB (l : List Int) (s : Nat) (h : isB l) : isB (z16 l s) := by
  unfold z16
  refine isB.app (fun z hz => ?_) (isB_take h s)
  rw [List.mem_replicate] at hz
  omega
theorem splice16 (l : List Int) (s : Nat) (hs : s ≤ 16) (hl : s ≤ l.length) : splice zero16 (16 - s) (u8s (l.take s)) = u8s (z16 l s) := by
  have e : zero16 = u8s (List.replicate 16 0) := rfl
  rw [e]
  unfold splice z16
  rw [u8s_length, u8s_append]
  simp only [u8s, List.map_replicate, List.take_replicate, List.drop_replicate, List.length_take]
  rw [show min (16 - s) 16 = 16 - s by omega, show 16 - (16 - s + min s l.length) = 0 by omega]
  simp
theorem got_hi (l : List Int) (s : Nat) (hB : isB l) (hs : s ≤ 16) (hl : s ≤ l.length) : bev ((z16 l s).take 8) = bev (l.take s) / 18446744073709551616 ∧ bev ((z16 l s).drop 8) = bev (l.take s) % 18446744073709551616 := by
  have h1 := bev_app ((z16 l s).take 8) ((z16 l s).drop 8)
  rw [List.take_append_drop, List.length_drop, z16_length l s hs hl] at h1
  have h2 : bev (z16 l s) = bev (l.take s) := bev_zeros _ _
  have h3 := bev_lt ((z16 l s).drop 8) (fun z hz => z16_isB l s hB z (List.mem_of_mem_drop hz))
  rw [List.length_drop, z16_length l s hs hl] at h3
  rw [h2] at h1
  have h4 : (256 : Nat) ^ (16 - 8) = 18446744073709551616 := by decide
  rw [h4] at h1 h3
  generalize bev ((z16 l s).take 8) = x at *
  generalize bev ((z16 l s).drop 8) = y at *
  generalize bev (l.take s) = v at *
  omega
theorem wread_any (Z : List Int) (hZ : isB Z) (h : Z.length = 16) (w : World) :
    Calls Tryz.prog 123 #[.agg (u8s Z).toArray] w fun e w' => e = .returned (.agg #[.int .u64 (bev (Z.take 8) : Int), .int .u64 (bev (Z.drop 8) : Int)]) ∧ Below w.heap.size w w' := by
  have := wread_core (Z.take 8) (Z.drop 8) (isB_take hZ 8) (fun z hz => hZ z (List.mem_of_mem_drop hz)) (by simp; omega) (by simp; omega) w
  rwa [List.take_append_drop] at this
theorem al40 : Tryz.prog.arrayLen 141 = 16 := by kernel_rfl
theorem el40 : Tryz.prog.elem 141 = 5 := by kernel_rfl
theorem sz40 (w : World) : (sizeOf (Tryz.prog.elem 141)).run Tryz.prog w = .ok 1 w := by
  rw [el40]
  obtain ⟨i0, hi0, hz0, hz1, hz2⟩ := info_parts info5
  simp [sizeOf, typeInfo, hi0, hz1]
theorem sl40 (g d s : Nat) (h : s + d = 16) (w : World) : (Instr.sliceAt 141 (.pointer (some ⟨g, 0, none⟩)) (some (.int .i64 (d : Int))) none none).run Tryz.prog w = .ok (.slice (some ⟨g, if s = 0 then 0 else d, none⟩) s s) w := by
  rw [run_sliceAt_array_l w 141 ⟨g, 0, none⟩ (by kernel_rfl) .i64 (d : Int) (by omega) (by rw [al40]; omega), sz40, al40]
  simp only [Result.andThen_ok, slicedAt, Int.toNat_natCast, Nat.mul_one, Addr.add_lit]
  by_cases hs : s = 0
  · rw [if_pos (by omega), if_pos hs, show 16 - d = s by omega]
  · rw [if_neg (by omega), if_neg hs, show 16 - d = s by omega, Nat.zero_add]
theorem info40 : (Tryz.prog.info? 141).map (·.size) = some 16 := by kernel_rfl
theorem heap_new2 (w : World) (o1 o2 : Obj) : ((w.alloc o1).alloc o2).drew.heap[w.heap.size + 1]? = some o2 := by
  show ((w.heap.push o1).push o2)[w.heap.size + 1]? = some o2
  rw [show w.heap.size + 1 = (w.heap.push o1).size by simp]
  exact Array.getElem?_push_size
theorem take_cells {l : List Int} {s j : Nat} {u : Value} (h : (u8s (l.take s))[j]? = some u) : (u8s l)[j]? = some u := by
  unfold u8s at *
  rw [List.map_take, List.getElem?_take] at h
  split at h
  · exact h
  · cases h
theorem copy_pos {w w1 : World} {ao : Option Addr} {cap s g q d : Nat} {l : List Int} (hB : Bytes w (.slice ao l.length cap) l) (hb : Below w.heap.size w w1) (hl : s ≤ l.length) (hq : s ≠ 0 → q = d) :
    0 < (u8s (l.take s)).length → (some (⟨g, q, none⟩ : Addr)) = some ⟨g, d, none⟩ ∧ ∃ ad, ao = some ad ∧ ∀ j v, (u8s (l.take s))[j]? = some v → w1.cell? (ad.add j) = some v := by
  intro h
  rw [u8s_length, List.length_take] at h
  have hs : s ≠ 0 := by omega
  rw [hq hs]
  refine ⟨rfl, ?_⟩
  obtain ⟨_, _, _, h3⟩ := hB.bounds
  cases ao with
  | none => have := h3 rfl; omega
  | some ad => exact ⟨ad, rfl, fun j v hv => hB.olds hb ad rfl j v (take_cells hv)⟩
theorem wget_yes (ao : Option Addr) (cap : Nat) (l : List Int) (s d : Nat) (w : World) (hB : Bytes w (.slice ao l.length cap) l) (hl : s ≤ l.length) (hd : s + d = 16)
    (hdp : Hid (∀ wx, (Instr.sliceAt 141 (.pointer (some ⟨w.heap.size + 1, 0, none⟩)) (some (.int .i64 (d : Int))) none none).run Tryz.prog wx = .ok (.slice (some ⟨w.heap.size + 1, if s = 0 then 0 else d, none⟩) s s) wx)) :
    Calls Tryz.prog 92 #[.slice ao l.length cap, .int .i64 (s : Int)] w fun e w' => e = .returned (.tuple #[.agg #[.int .u64 (bev (l.take s) / 18446744073709551616 : Nat), .int .u64 (bev (l.take s) % 18446744073709551616 : Nat)], .bool true]) ∧ Below w.heap.size w w' := by
  obtain ⟨hx, hc1, hc2, hc3⟩ := hB.bounds
  have HB := h_ hB
  have HC3 := h_ hc3
  clear hB hc3 hx
  have HD := h_ hd
  have hs16 : s ≤ 16 := by omega
  have hd16 : d ≤ 16 := by omega
  have e2 : (16 : Int) - (s : Int) = (d : Int) := by omega
  clear hd
  have g0 : ¬ (s : Int) < 0 := by omega
  have g1 : ¬ (16 : Int) < (s : Int) := by omega
  have g2 : ¬ (l.length : Int) < (s : Int) := by omega
  have GOT := h_ (got_hi l s HB.out.isB_ hs16 hl)
  have RD0 := (wread_any (z16 l s) (z16_isB l s HB.out.isB_) (z16_length l s hs16 hl))
  rw [(got_hi l s HB.out.isB_ hs16 hl).1, (got_hi l s HB.out.isB_ hs16 hl).2] at RD0
  generalize bev (l.take s) / 18446744073709551616 = X at *
  generalize bev (l.take s) % 18446744073709551616 = Y at *
  have RD := h_ RD0
  clear RD0 GOT
  go_enter Tryz.func92, Tryz.ntmps92
  go_wp2_with fail
  have e3 : IntKind.i64.wrap (d : Int) = (d : Int) := by rw [IntKind.wrap_i64]; omega
  have hsl := hdp.out
  have f1 : (0 : Int) ≤ (s : Int) := by omega
  have f2 : (s : Int) ≤ (cap : Int) := by omega
  obtain ⟨q, hq⟩ : ∃ q, q = if s = 0 then 0 else d := ⟨_, rfl⟩
  rw [← hq] at hsl
  have HQ : Hid (s ≠ 0 → q = d) := fun h => by rw [hq, if_neg h]
  clear hq hdp
  have HLEN : Hid ((u8s (l.take s)).length = s) := by show _ = _; rw [u8s_length, List.length_take]; omega
  go_region_law (refine step_copy_splice rfl (.tmp 22) (.tmp 25) 25 25 rfl 5 Tryz.underlying25 (by kernel_rfl) (some ⟨w.heap.size + 1, q, none⟩) ao s s s cap (by simp [Act.eval, Act.put]) (by simp [Act.eval, Act.put]) (w.heap.size + 1) d zero16 141 (heap_new2 w _ _) (u8s (l.take s)) (by rw [HLEN.out]; simp) (copy_pos HB.out (by go_grown) hl HQ.out) (by rw [HLEN.out]; show d + s ≤ 16; omega) (u8s_one _) (w.heap.size + 1) (w.alloc (.cells #[.int .u64 0, .int .u64 0] 31)) (by go_grown) (Nat.le_refl _) ?_; intro w2 H2 hB2)
  have H3 : Hid (w2.heap[w.heap.size + 1]? = some (.cells (u8s (z16 l s)).toArray 141 (0, 0))) := by
    have := H2.out
    rw [show d = 16 - s by have := HD.out; omega, splice16 l s hs16 hl] at this
    exact this
  have S3 : Hid ((Tryz.prog.info? 141).map (·.size) = some (u8s (z16 l s)).toArray.size) := by
    show _ = _
    rw [info40, List.size_toArray, u8s_length, z16_length l s hs16 hl]
  have sz2 := hB2.size
  simp only [World.size_alloc] at sz2
  clear hsl e3 f1 f2 H2 HQ HLEN HB HC3
  have t2 := kept2 w w2 0 0 31 (by simpa using hB2)
  obtain ⟨bel2, c0, c1, k0, k1⟩ := t2
  go_wp2_with (refine wpList_load_row rfl 141 (.tmp 6) rfl (w.heap.size + 1) (by simp [Act.eval, Act.put]) 141 (u8s (z16 l s)).toArray (0, 0) _ H3.out Tryz.underlying141 rfl S3.out ?_)
  refine (RD.out w2).mono ?_
  rintro e w3 ⟨rfl, b3⟩
  have c0' := cell_later b3 c0
  have c1' := cell_later b3 c1
  have k0' : w3.frozen? ⟨w.heap.size, 0, none⟩ = false := by rw [b3.frozen (by show w.heap.size < _; omega)]; exact k0
  have k1' : w3.frozen? ⟨w.heap.size, 1, none⟩ = false := by rw [b3.frozen (by show w.heap.size < _; omega)]; exact k1
  obtain ⟨s0, s1⟩ := set2 (u := .int .u64 (X : Int)) (v := .int .u64 (Y : Int)) c0' c1'
  have bel3 := bel2.trans (b3.mono bel2.size)
  clear c0 c1 k0 k1
  go_wp2
  exact bodyPost_ret (v := .tuple #[.agg #[.int .u64 (X : Int), .int .u64 (Y : Int)], .bool true]) (by simp [results, Tryz.results92, go_sem, s0, s1]) rfl ⟨rfl, (bel3.setCell (Nat.le_refl _) _).setCell (Nat.le_refl _) _⟩
theorem shift_step (V : Nat) (z : Int) (hV : V < 1329227995784915872903807060280344576) (hz : 0 ≤ z ∧ z ≤ 255) :
    bits .or .u64 (IntKind.u64.wrap (((V / 18446744073709551616 : Nat) : Int) * 256)) (((V % 18446744073709551616 : Nat) : Int) / 72057594037927936) = (((V * 256 + z.toNat) / 18446744073709551616 : Nat) : Int) ∧
    bits .or .u64 (IntKind.u64.wrap (((V % 18446744073709551616 : Nat) : Int) * 256)) z = (((V * 256 + z.toNat) % 18446744073709551616 : Nat) : Int) := by
  obtain ⟨n, rfl⟩ := Int.eq_ofNat_of_zero_le hz.1
  have hn : n ≤ 255 := by omega
  generalize hx : V / 18446744073709551616 = x
  generalize hy : V % 18446744073709551616 = y
  have hV' : V = x * 18446744073709551616 + y := by omega
  have hy2 : y < 18446744073709551616 := by omega
  have hx2 : x < 72057594037927936 := by omega
  clear hx hy hV
  subst hV'
  constructor
  · have e : IntKind.u64.wrap ((x : Int) * 256) = ((x * 256 : Nat) : Int) := by rw [IntKind.wrap_u64]; omega
    have e2 : ((y : Int) / 72057594037927936) = ((y / 72057594037927936 : Nat) : Int) := by omega
    rw [e, e2, u64_or_nat _ _ (by omega) (by omega), nat_join 8 (x * 256) _ (by omega) (by omega)]
    simp only [Int.toNat_natCast]
    omega
  · have e : IntKind.u64.wrap ((y : Int) * 256) = ((y * 256 % 18446744073709551616 : Nat) : Int) := by rw [IntKind.wrap_u64]; omega
    rw [e, u64_or_nat _ _ (by omega) (by omega), nat_join 8 (y * 256 % 18446744073709551616) _ (by omega) (by omega)]
    simp only [Int.toNat_natCast]
    omega
theorem bev15 (l : List Int) (hB : isB l) (k : Nat) (hk : k ≤ 15) : bev (l.take k) < 1329227995784915872903807060280344576 := by
  have h1 := bev_lt (l.take k) (isB_take hB k)
  have h2 : (l.take k).length ≤ 15 := by simp; omega
  have h3 : 256 ^ (l.take k).length ≤ 256 ^ 15 := Nat.pow_le_pow_right (by decide) h2
  have h4 : (256 : Nat) ^ 15 = 1329227995784915872903807060280344576 := by decide
  omega
def gh (l : List Int) (k : Nat) : Nat := bev (l.take k) / 18446744073709551616
def gl (l : List Int) (k : Nat) : Nat := bev (l.take k) % 18446744073709551616
theorem get_step (l : List Int) (hB : isB l) (k : Nat) (hk : k < 16) (hl : k < l.length) : ∃ z, l[k]? = some z ∧ IntKind.u64.wrap z = z ∧
    bits .or .u64 (IntKind.u64.wrap ((gh l k : Int) * 256)) ((gl l k : Int) / 72057594037927936) = (gh l (k + 1) : Int) ∧ bits .or .u64 (IntKind.u64.wrap ((gl l k : Int) * 256)) z = (gl l (k + 1) : Int) := by
  have h : l[k]? = some l[k] := List.getElem?_eq_getElem hl
  have hz := hB _ (List.mem_of_getElem? h)
  refine ⟨l[k], h, by rw [IntKind.wrap_u64]; omega, ?_⟩
  have := shift_step (bev (l.take k)) l[k] (bev15 l hB k (by omega)) hz
  unfold gh gl
  rw [take_snoc_z l k _ h, bev_snoc]
  exact this
theorem rwget_yes (ao : Option Addr) (cap : Nat) (l : List Int) (s : Nat) (w : World) (hB : Bytes w (.slice ao l.length cap) l) (hl : s ≤ l.length) (hs16 : s ≤ 16) :
    Calls Tryz.prog 95 #[.slice ao l.length cap, .int .i64 (s : Int)] w fun e w' => e = .returned (.tuple #[.agg #[.int .u64 (gh l s : Nat), .int .u64 (gl l s : Nat)], .bool true]) ∧ Below w.heap.size w w' := by
  obtain ⟨hx, hc1, hc2, hc3⟩ := hB.bounds
  obtain ⟨_, _, _, hat⟩ := hB.at
  have HAT := h_ hat
  have HST := h_ (fun k => get_step l hB.isB_ k)
  clear hB hc3 hx hat
  have H0 : Hid (gh l 0 = 0 ∧ gl l 0 = 0) := ⟨by simp [gh, bev], by simp [gl, bev]⟩
  have g0 : ¬ (s : Int) < 0 := by omega
  have g1 : ¬ (16 : Int) < (s : Int) := by omega
  have g2 : ¬ (l.length : Int) < (s : Int) := by omega
  go_enter Tryz.func95, Tryz.ntmps95
  go_wp2
  go_loopw [7] (fun i wr => ∃ k : Nat, k ≤ s ∧ i = .int .i64 k ∧ Hid (Two wr w.heap.size 0 0) ∧ Hid (Two wr (w.heap.size + 1) (gh l k) (gl l k)) ∧ Below w.heap.size w wr) (fun i _ => s - (intOf i).toNat)
  case atStart =>
    refine ⟨0, Nat.zero_le _, rfl, ?_, ?_, by go_grown⟩
    · exact ⟨by simp [go_sem], by simp [go_sem], by simp [go_sem], by simp [go_sem]⟩
    · show Two _ _ _ _
      rw [H0.out.1, H0.out.2]
      exact ⟨by simp [go_sem], by simp [go_sem], by simp [go_sem], by simp [go_sem]⟩
  case round =>
    obtain ⟨k, hk, rfl, T0, T1, bel⟩ := hrel
    by_cases hkt : k < s
    · obtain ⟨z, hz, wz, r1, r2⟩ := HST.out k (by omega) (by omega)
      obtain ⟨b, off, rfl, hc⟩ := HAT.out k z hz
      have c0 := cell_later bel hc
      clear hz hc
      obtain ⟨x', ex⟩ : ∃ x', gh l (k + 1) = x' := ⟨_, rfl⟩
      obtain ⟨y', ey⟩ : ∃ y', gl l (k + 1) = y' := ⟨_, rfl⟩
      rw [ex] at r1
      rw [ey] at r2
      have EX := h_ ex
      have EY := h_ ey
      clear ex ey
      have t0 : Two wr w.heap.size 0 0 := T0.out
      have t1 : Two wr (w.heap.size + 1) (gh l k) (gl l k) := T1.out
      generalize gh l k = x at *
      generalize gl l k = y at *
      obtain ⟨d0, d1, f0, f1⟩ := t1
      have hk1 : (0 : Int) ≤ (k : Int) := by omega
      have hk2 : (k : Int) < (s : Int) := by omega
      have hk3 : (k : Int) < (l.length : Int) := by omega
      have HT0 := h_ t0
      clear t0
      go_wp2_with fail
      go_region
      have t1' : Two wr (w.heap.size + 1) x y := T1.out
      have T0' := h_ ((HT0.out.far (f := w.heap.size + 1) (u := x') (v := y') (by omega)).later ((Below.refl _ _).drew))
      have T1' := h_ ((t1'.set x' y').later ((Below.refl _ _).drew))
      clear t1' T0 T1 HT0 d0 d1 f0 f1 c0 r1 r2 wz HAT
      go_wp2
      go_roundw
      case rel => exact ⟨k + 1, by omega, by go_num, T0', by show Two _ _ _ _; rw [EX.out, EY.out]; exact T1'.out, ((bel.setCell (Nat.le_succ _) _).setCell (Nat.le_succ _) _).drew⟩
      case measure => simp [intOf]; omega
    · have he : k = s := by omega
      subst he
      have t0 : Two wr w.heap.size 0 0 := T0.out
      have t1 : Two wr (w.heap.size + 1) (gh l k) (gl l k) := T1.out
      obtain ⟨c0, c1, f0, f1⟩ := t1
      obtain ⟨d0, d1, g0', g1'⟩ := t0
      obtain ⟨s0, s1⟩ := set2 (u := .int .u64 (gh l k : Int)) (v := .int .u64 (gl l k : Int)) d0 d1
      clear T0 T1
      go_wp2
      exact bodyPost_ret (v := .tuple #[.agg #[.int .u64 (gh l k : Int), .int .u64 (gl l k : Int)], .bool true]) (by simp [results, Tryz.results95, go_sem, s0, s1]) rfl ⟨rfl, (bel.setCell (Nat.le_refl _) _).setCell (Nat.le_refl _) _⟩
def gx (l : List Int) (size : Int) : Nat := gv l size / 18446744073709551616
def gy (l : List Int) (size : Int) : Nat := gv l size % 18446744073709551616
theorem wget_any (v : Value) (l : List Int) (size : Int) (w : World) (hB : Bytes w v l) :
    Calls Tryz.prog 92 #[v, .int .i64 size] w fun e w' => e = .returned (.tuple #[.agg #[.int .u64 (gx l size : Nat), .int .u64 (gy l size : Nat)], .bool (gok l size)]) ∧ Below w.heap.size w w' := by
  obtain ⟨ao, cap, rfl⟩ := hB.short
  obtain ⟨hx, hc1, hc2, hc3⟩ := hB.bounds
  unfold gx gy gv
  cases h : gok l size
  · simp only [Bool.false_eq_true, if_false, Nat.zero_div, Nat.zero_mod]
    exact wget_no ao cap l size w (by omega) h
  · obtain ⟨h1, h2, h3⟩ := gok_in h
    obtain ⟨s, rfl⟩ := Int.eq_ofNat_of_zero_le h1
    simp only [if_true, Int.toNat_natCast]
    exact wget_yes ao cap l s (16 - s) w hB (by omega) (by omega) (fun wx => sl40 _ _ _ (by omega) wx)
theorem rwget_any (v : Value) (l : List Int) (size : Int) (w : World) (hB : Bytes w v l) :
    Calls Tryz.prog 95 #[v, .int .i64 size] w fun e w' => e = .returned (.tuple #[.agg #[.int .u64 (gx l size : Nat), .int .u64 (gy l size : Nat)], .bool (gok l size)]) ∧ Below w.heap.size w w' := by
  obtain ⟨ao, cap, rfl⟩ := hB.short
  obtain ⟨hx, hc1, hc2, hc3⟩ := hB.bounds
  unfold gx gy gv
  cases h : gok l size
  · simp only [Bool.false_eq_true, if_false, Nat.zero_div, Nat.zero_mod]
    exact rwget_no ao cap l size w (by omega) h
  · obtain ⟨h1, h2, h3⟩ := gok_in h
    obtain ⟨s, rfl⟩ := Int.eq_ofNat_of_zero_le h1
    simp only [if_true, Int.toNat_natCast]
    exact rwget_yes ao cap l s w hB (by omega) (by omega)
end
end Go.Proofs.YthhijfphfcmniaaGreat
