/-
  The laws' dice: numbers that follow from at most 4096 bytes; a drawn number lies below its bound, and only the dice turn.
-/
import Derived.Test.YtccbbdmoedmcpaaDrawCell
namespace Go.Proofs.Ytccbbdmoedmcpaa
open Go.RowKit
theorem bitsU_and_bd (X m : Int) (h0 : 0 ≤ m) (h1 : m < 2147483648) : 0 ≤ bits .and .u64 X m ∧ bits .and .u64 X m ≤ m := by
  obtain ⟨k, rfl⟩ := Int.eq_ofNat_of_zero_le h0
  have hk : (BitVec.ofInt 64 (k : Int)).toNat = k := by
    rw [BitVec.toNat_ofInt]; simp; omega
  have hle : (BitVec.ofInt 64 X &&& BitVec.ofInt 64 (k : Int)).toNat ≤ k := by
    rw [BitVec.toNat_and, hk]; exact Nat.and_le_right
  have e : bits .and .u64 X (k : Int) = ((BitVec.ofInt 64 X &&& BitVec.ofInt 64 (k : Int)).toNat : Int) := by
    show IntKind.u64.wrap ((BitVec.ofInt 64 X &&& BitVec.ofInt 64 (k : Int)).toNat : Int) = _
    generalize (BitVec.ofInt 64 X &&& BitVec.ofInt 64 (k : Int)).toNat = z at hle
    simp [IntKind.wrap, IntKind.signed, IntKind.bits]
    omega
  rw [e]; omega
/-- The dice in block g: bytes that lie below block B, and how far they are. -/
def DI (w : World) (B g : Nat) : Prop := ∃ (a : Option Addr) (n cap i : Nat) (h : Int) (bs : Nat → Int),
  w.heap[g]? = some (.cells #[.slice a n cap, .int .i64 i, .int .u64 h] 52 (0, 0)) ∧ i ≤ n ∧ n ≤ 4096 ∧ B ≤ g ∧ (∀ j, 0 ≤ bs j ∧ bs j ≤ 255) ∧ Seg w B a n 1 (fun j _ => .int .u8 (bs j))
theorem DI.lt {w : World} {B g : Nat} (h : DI w B g) : g < w.heap.size := by
  obtain ⟨a, n, cap, i, h, bs, hg, _⟩ := h
  exact (Array.getElem?_eq_some_iff.1 hg).1
theorem DI.le {w : World} {B g : Nat} (h : DI w B g) : B ≤ g := by
  obtain ⟨a, n, cap, i, h, bs, hg, _, _, hB, _⟩ := h
  exact hB
theorem DI.keep {w w' : World} {B g : Nat} (h : DI w B g) (e : w'.heap[g]? = w.heap[g]?) (k : Below B w w') : DI w' B g := by
  obtain ⟨a, n, cap, i, h, bs, hg, h1, h2, h3, h4, h5⟩ := h
  exact ⟨a, n, cap, i, h, bs, e.trans hg, h1, h2, h3, h4, h5.below k⟩
theorem DI.alloc {w : World} {B g : Nat} {o : Obj} (h : DI w B g) : DI (w.alloc o) B g := h.keep (Below.heap_alloc w o g h.lt) ((Below.refl _ _).alloc (by have := h.lt; have := h.le; omega) o)
theorem DI.drew {w : World} {B g : Nat} (h : DI w B g) : DI w.drew B g := h
theorem DI.setCell {w : World} {B g : Nat} {p : Addr} {u : Value} (h : DI w B g) (hp : B ≤ p.block) (hn : g ≠ p.block) : DI (w.setCell p u) B g := h.keep (Below.heap_setCell w p u g hn) ((Below.refl _ _).setCell hp u)
theorem DI.below {w w' : World} {B g : Nat} (h : DI w B g) (k : Below w.heap.size w w') : DI w' B g := h.keep (k.block g h.lt) (k.mono (by have := h.lt; have := h.le; omega))
set_option maxHeartbeats 400000 in
theorem roll_any (n cap : Nat) (a : Option Addr) (bs : Nat → Int) (seed : Int) (w : World) (h : Code w w.heap.size a n bs) :
    Calls Try.prog 14 #[.slice a n cap, .int .u64 seed] w fun r w' => ∃ g, r = .returned (.pointer (some ⟨g, 0, none⟩)) ∧ DI w' w.heap.size g ∧ Below w.heap.size w w' := by
  have hn := h.len
  have HB := Lib.hid h.bd
  have HS := Lib.hid h.seg
  clear h
  go_enter Try.func14, Try.ntmps14
  go_wp2
  go_loopw [6] (fun i wr => ∃ (k : Nat) (H : Int), k ≤ n ∧ i = .int .i64 k ∧ wr.heap[w.heap.size]? = some (.cells #[.slice a n cap, .int .i64 0, .int .u64 H] 52 (0, 0)) ∧ Below w.heap.size w wr) (fun i _ => n - (intOf i).toNat)
  case atStart => exact ⟨0, _, Nat.zero_le _, rfl, heap_alloc_new w _, (Below.refl _ _).alloc (Nat.le_refl _) _⟩
  case round =>
    obtain ⟨k, H, hk, rfl, hg, hbel⟩ := hrel
    have hs := hbel.size
    have hlt0 : w.heap.size < wr.heap.size := (Array.getElem?_eq_some_iff.1 hg).1
    by_cases hlt : k < n
    · obtain h0 | ⟨b, o, rfl, hb, hc⟩ := HS.out
      · omega
      have cb := (hbel.cell (p := ⟨b, o + k * 1 + 0, none⟩) hb).trans (hc k 0 hlt (by omega))
      have hbb := HB.out k
      simp only [Nat.add_zero, Nat.mul_one] at cb
      clear hc
      generalize bs k = y at cb hbb
      obtain ⟨hy0, hy1⟩ := hbb
      have c0 := cell_of_row wr w.heap.size 0 _ _ _ hg
      have c2 := cell_of_row wr w.heap.size 2 _ _ _ hg
      have f0 := heap_frozen hg
      simp at c0 c2
      have hk1 : (k : Int) < (n : Int) := by omega
      have HG := Lib.hid hg
      clear hg
      go_wp2
      go_still_tail 15, (by kernel_rfl)
      go_wp2
      go_roundw
      case rel => exact ⟨k + 1, _, by omega, by go_num, heapDN (n := 1) (by simpa using heap_setCell_at HG.out 2 _), by (repeat (first | with_reducible assumption | with_reducible exact Below.refl _ _ | with_reducible refine bA ?_ | with_reducible refine bD ?_ | ((with_reducible refine bS ?_ ?_); rotate_left; (focus ((try simp); (try omega)))) | ((with_reducible refine bBx ?_ ?_); rotate_left; (focus ((try simp); (try omega))))))⟩
      case measure => simp [intOf]; omega
    · have : k = n := by omega
      subst this
      go_wp2
      go_ret
      exact ⟨_, rfl, ⟨a, k, cap, 0, H, bs, hg, by omega, hn, Nat.le_refl _, HB.out, HS.out.below hbel⟩, hbel⟩
set_option maxHeartbeats 400000 in
theorem below_core (B g n cap i : Nat) (a : Option Addr) (h m : Int) (bs : Nat → Int) (w : World)
    (hg : w.heap[g]? = some (.cells #[.slice a n cap, .int .i64 i, .int .u64 h] 52 (0, 0))) (hi : i ≤ n) (hn : n ≤ 4096) (hB : B ≤ g) (hbs : ∀ j, 0 ≤ bs j ∧ bs j ≤ 255) (HS : Hid (Seg w B a n 1 (fun j _ => .int .u8 (bs j)))) (hm : 0 < m) (hm2 : m ≤ 1000000) :
    Calls Try.prog 24 #[.pointer (some ⟨g, 0, none⟩), .int .i64 m] w fun r w' => RangeI (m - 1) r ∧ DI w' B g ∧ Gr g w w' := by
  have c0 := cell_of_row w g 0 _ _ _ hg
  have c1 := cell_of_row w g 1 _ _ _ hg
  have c2 := cell_of_row w g 2 _ _ _ hg
  have f0 := heap_frozen hg
  have hlt : g < w.heap.size := (Array.getElem?_eq_some_iff.1 hg).1
  simp at c0 c1 c2
  have HG := Lib.hid hg
  have HB := Lib.hid hbs
  clear hg hbs
  by_cases hin : i < n
  · obtain h0 | ⟨b, o, rfl, hb, hc⟩ := HS.out
    · omega
    have cb := hc i 0 hin (by omega)
    have hbb := HB.out i
    simp only [Nat.add_zero, Nat.mul_one] at cb
    clear hc
    generalize bs i = y at cb hbb
    obtain ⟨hy0, hy1⟩ := hbb
    have hbg : b ≠ g := by omega
    have hgb : ¬ g = b := by omega
    have hi0 : (0 : Int) ≤ (i : Int) := by omega
    have hi1 : (i : Int) < (n : Int) := by omega
    go_enter Try.func24, Try.ntmps24
    go_wp2
    generalize IntKind.u64.wrap (IntKind.u64.wrap (h * 6364136223846793005) + 1442695040888963407) = H
    have hx := bitsU_and_bd (H / 8589934592) 16777215 (by omega) (by omega)
    generalize bits BinOp.and IntKind.u64 (H / 8589934592) 16777215 = x at hx
    obtain ⟨hx0, hx1⟩ := hx
    have hw : wrap64 x = x := IntWalk.wrap64_in _ (by omega)
    rw [hw]
    clear hw
    go_quiet (fail)
    go_wp2
    go_quiet (fail)
    go_wp2
    go_ret
    exact ⟨⟨_, rfl, (emod_bd _ hm).1, (emod_bd _ hm).2⟩, ⟨_, n, cap, i + 1, H, bs, by simpa using heap_setCell_at (heapDN (heap_setCell_at HG.out 2 _)) 1 _, by omega, hn, hB, HB.out, HS.out.below (by repeat (first | exact Below.refl _ _ | refine Below.setCell ?_ hB _ | refine bDN ?_ _))⟩, by repeat (first | exact gR _ _ | refine gS ?_ (.inl rfl) | refine gDN ?_ _)⟩
  · have hin2 : ¬ (i : Int) < (n : Int) := by omega
    go_enter Try.func24, Try.ntmps24
    go_wp2
    generalize IntKind.u64.wrap (IntKind.u64.wrap (h * 6364136223846793005) + 1442695040888963407) = H
    have hx := bitsU_and_bd (H / 8589934592) 16777215 (by omega) (by omega)
    generalize bits BinOp.and IntKind.u64 (H / 8589934592) 16777215 = x at hx
    obtain ⟨hx0, hx1⟩ := hx
    have hw : wrap64 x = x := IntWalk.wrap64_in _ (by omega)
    rw [hw]
    clear hw
    go_quiet (fail)
    go_wp2
    go_ret
    exact ⟨⟨_, rfl, (emod_bd _ hm).1, (emod_bd _ hm).2⟩, ⟨a, n, cap, i, H, bs, by simpa using heap_setCell_at HG.out 2 _, hi, hn, hB, HB.out, HS.out.below (bDN ((Below.refl _ _).setCell hB _) _)⟩, gDN (gS (gR _ _) (.inl rfl)) _⟩
theorem below_any (B g : Nat) (m : Int) (w : World) (h : DI w B g) (hm : 0 < m) (hm2 : m ≤ 1000000) : Calls Try.prog 24 #[.pointer (some ⟨g, 0, none⟩), .int .i64 m] w fun r w' => RangeI (m - 1) r ∧ DI w' B g ∧ Gr g w w' := by
  obtain ⟨a, n, cap, i, h, bs, hg, h1, h2, h3, h4, h5⟩ := h
  exact below_core B g n cap i a h m bs w hg h1 h2 h3 h4 (Lib.hid h5) hm hm2
end Go.Proofs.Ytccbbdmoedmcpaa
