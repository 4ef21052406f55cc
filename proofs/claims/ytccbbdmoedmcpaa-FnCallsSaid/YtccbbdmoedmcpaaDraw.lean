/-
  The draws of the laws: what each hands back is some value of its range, and only the cursor turns; the drawn bytes are at most 4096.
-/
import Derived.Test.YtccbbdmoedmcpaaOwn
import Derived.IntWalk
namespace Go.Proofs.Ytccbbdmoedmcpaa
open Go.RowKit
theorem heapDN {w : World} {g n : Nat} {x : Option Obj} (h : w.heap[g]? = x) : (w.drewN n).heap[g]? = x := h
theorem bits_and_bd (X m : Int) (h0 : 0 ≤ m) (h1 : m < 2147483648) : 0 ≤ bits .and .i64 X m ∧ bits .and .i64 X m ≤ m := by
  obtain ⟨k, rfl⟩ := Int.eq_ofNat_of_zero_le h0
  have hk : (BitVec.ofInt 64 (k : Int)).toNat = k := by
    rw [BitVec.toNat_ofInt]; simp; omega
  have hle : (BitVec.ofInt 64 X &&& BitVec.ofInt 64 (k : Int)).toNat ≤ k := by
    rw [BitVec.toNat_and, hk]; exact Nat.and_le_right
  have e : bits .and .i64 X (k : Int) = ((BitVec.ofInt 64 X &&& BitVec.ofInt 64 (k : Int)).toNat : Int) := by
    show IntKind.i64.wrap ((BitVec.ofInt 64 X &&& BitVec.ofInt 64 (k : Int)).toNat : Int) = _
    refine IntWalk.i64_in _ ?_
    omega
  rw [e]; omega
/-- The cursor in block g: bytes that lie below block B, and how far it is. -/
def DS (w : World) (B g : Nat) : Prop := ∃ (a : Option Addr) (n cap i : Nat) (h : Int) (bs : Nat → Int),
  w.heap[g]? = some (.cells #[.slice a n cap, .int .i64 i, .int .i64 h] 54 (0, 0)) ∧ i ≤ n ∧ n ≤ 4096 ∧ B ≤ g ∧ (∀ j, 0 ≤ bs j ∧ bs j ≤ 255) ∧ Seg w B a n 1 (fun j _ => .int .u8 (bs j))
theorem DS.lt {w : World} {B g : Nat} (h : DS w B g) : g < w.heap.size := by
  obtain ⟨a, n, cap, i, h, bs, hg, _⟩ := h
  exact (Array.getElem?_eq_some_iff.1 hg).1
theorem DS.le {w : World} {B g : Nat} (h : DS w B g) : B ≤ g := by
  obtain ⟨a, n, cap, i, h, bs, hg, _, _, hB, _⟩ := h
  exact hB
theorem DS.keep {w w' : World} {B g : Nat} (h : DS w B g) (e : w'.heap[g]? = w.heap[g]?) (k : Below B w w') : DS w' B g := by
  obtain ⟨a, n, cap, i, h, bs, hg, h1, h2, h3, h4, h5⟩ := h
  exact ⟨a, n, cap, i, h, bs, e.trans hg, h1, h2, h3, h4, h5.below k⟩
theorem DS.alloc {w : World} {B g : Nat} {o : Obj} (h : DS w B g) : DS (w.alloc o) B g := h.keep (Below.heap_alloc w o g h.lt) ((Below.refl _ _).alloc (by have := h.lt; have := h.le; omega) o)
theorem DS.drew {w : World} {B g : Nat} (h : DS w B g) : DS w.drew B g := h
theorem DS.setCell {w : World} {B g : Nat} {p : Addr} {u : Value} (h : DS w B g) (hp : B ≤ p.block) (hn : g ≠ p.block) : DS (w.setCell p u) B g := h.keep (Below.heap_setCell w p u g hn) ((Below.refl _ _).setCell hp u)
/-- A callee that only makes memory leaves the cursor. -/
theorem DS.below {w w' : World} {B g : Nat} (h : DS w B g) (k : Below w.heap.size w w') : DS w' B g := h.keep (k.block g h.lt) (k.mono (by have := h.lt; have := h.le; omega))
theorem heap_setCell_at {w : World} {g : Nat} {cs : Array Value} {t : TypeId} (h : w.heap[g]? = some (.cells cs t (0, 0))) (j : Nat) (u : Value) : (w.setCell ⟨g, j, none⟩ u).heap[g]? = some (.cells (cs.setIfInBounds j u) t (0, 0)) := by
  simp [World.setCell, Array.getElem?_modify, h]
theorem heap_frozen {w : World} {g : Nat} {cs : Array Value} {t : TypeId} (h : w.heap[g]? = some (.cells cs t (0, 0))) (o : Nat) : w.frozen? ⟨g, o, none⟩ = false := by
  simp [World.frozen?, h]
/-- A number of the range 0 .. m. -/
def RangeI (m : Int) (r : Ending) : Prop := ∃ x : Int, r = .returned (.int .i64 x) ∧ 0 ≤ x ∧ x ≤ m
set_option maxHeartbeats 400000 in
theorem l1Byte_core (B g n cap i : Nat) (a : Option Addr) (h : Int) (bs : Nat → Int) (w : World)
    (hg : w.heap[g]? = some (.cells #[.slice a n cap, .int .i64 i, .int .i64 h] 54 (0, 0))) (hi : i ≤ n) (hn : n ≤ 4096) (hB : B ≤ g) (hbs : ∀ j, 0 ≤ bs j ∧ bs j ≤ 255) (HS : Hid (Seg w B a n 1 (fun j _ => .int .u8 (bs j)))) :
    Calls Try.prog 33 #[.pointer (some ⟨g, 0, none⟩)] w fun r w' => RangeI 255 r ∧ DS w' B g ∧ Gr g w w' := by
  have c0 := cell_of_row w g 0 _ _ _ hg
  have c1 := cell_of_row w g 1 _ _ _ hg
  have c2 := cell_of_row w g 2 _ _ _ hg
  have f0 := heap_frozen hg
  have hlt : g < w.heap.size := (Array.getElem?_eq_some_iff.1 hg).1
  simp at c0 c1 c2
  have HG := Lib.hid hg
  have HB := Lib.hid hbs
  clear hg hbs
  by_cases hin : i < n
  · obtain h0 | ⟨b, o, rfl, hb, hc⟩ := HS.out
    · omega
    have cb := hc i 0 hin (by omega)
    have hbb := HB.out i
    simp only [Nat.add_zero, Nat.mul_one] at cb
    clear hc
    generalize bs i = y at cb hbb
    obtain ⟨hy0, hy1⟩ := hbb
    have hbg : b ≠ g := by omega
    have hgb : ¬ g = b := by omega
    have hi0 : (0 : Int) ≤ (i : Int) := by omega
    have hi1 : (i : Int) < (n : Int) := by omega
    go_enter Try.func33, Try.ntmps33
    go_wp2
    generalize wrap64 (wrap64 (h * 6364136223846793005) + 1442695040888963407) = H
    go_quiet (fail)
    go_wp2
    have hx := bits_and_bd (bits BinOp.xor IntKind.i64 (H / 8589934592) (H / 35184372088832)) 255 (by omega) (by omega)
    generalize bits BinOp.and IntKind.i64 (bits BinOp.xor IntKind.i64 (H / 8589934592) (H / 35184372088832)) 255 = x at hx
    obtain ⟨hx0, hx1⟩ := hx
    go_quiet (fail)
    go_wp2
    go_quiet (fail)
    have hz := bits_and_bd (IntKind.i64.wrap (x + y)) 255 (by omega) (by omega)
    have hz' := bits_and_bd (x + y) 255 (by omega) (by omega)
    go_wp2
    go_ret
    exact ⟨⟨_, rfl, hz'.1, hz'.2⟩, ⟨_, n, cap, i + 1, H, bs, by simpa using heap_setCell_at (heapDN (heap_setCell_at HG.out 2 _)) 1 _, by omega, hn, hB, HB.out, HS.out.below (by repeat (first | exact Below.refl _ _ | refine Below.setCell ?_ hB _ | refine bDN ?_ _))⟩, by repeat (first | exact gR _ _ | refine gS ?_ (.inl rfl) | refine gDN ?_ _)⟩
  · have hin2 : ¬ (i : Int) < (n : Int) := by omega
    go_enter Try.func33, Try.ntmps33
    go_wp2
    generalize wrap64 (wrap64 (h * 6364136223846793005) + 1442695040888963407) = H
    go_quiet (fail)
    go_wp2
    have hx := bits_and_bd (bits BinOp.xor IntKind.i64 (H / 8589934592) (H / 35184372088832)) 255 (by omega) (by omega)
    generalize bits BinOp.and IntKind.i64 (bits BinOp.xor IntKind.i64 (H / 8589934592) (H / 35184372088832)) 255 = x at hx
    obtain ⟨hx0, hx1⟩ := hx
    go_quiet (fail)
    go_wp2
    go_ret
    exact ⟨⟨x, rfl, hx0, hx1⟩, ⟨a, n, cap, i, H, bs, by simpa using heap_setCell_at HG.out 2 _, hi, hn, hB, HB.out, HS.out.below (bDN (bDN ((Below.refl _ _).setCell hB _) _) _)⟩, gDN (gDN (gS (gR _ _) (.inl rfl)) _) _⟩
theorem l1Byte_any (B g : Nat) (w : World) (h : DS w B g) : Calls Try.prog 33 #[.pointer (some ⟨g, 0, none⟩)] w fun r w' => RangeI 255 r ∧ DS w' B g ∧ Gr g w w' := by
  obtain ⟨a, n, cap, i, h, bs, hg, h1, h2, h3, h4, h5⟩ := h
  exact l1Byte_core B g n cap i a h bs w hg h1 h2 h3 h4 (Lib.hid h5)
theorem emod_bd (x : Int) {n : Int} (hn : 0 < n) : 0 ≤ x % n ∧ x % n ≤ n - 1 := by
  have := Int.emod_nonneg x (show n ≠ 0 by omega)
  have := Int.emod_lt_of_pos x hn
  omega
set_option maxHeartbeats 400000 in
/-- A number below n, of one byte or of four. -/
theorem l1Below_any (B g : Nat) (n : Int) (w : World) (h : DS w B g) (hn : 0 < n) (hn2 : n ≤ 1000000) : Calls Try.prog 28 #[.pointer (some ⟨g, 0, none⟩), .int .i64 n] w fun r w' => RangeI (n - 1) r ∧ DS w' B g ∧ Gr g w w' := by
  by_cases hs : n ≤ 256
  · go_enter Try.func28, Try.ntmps28
    go_wp2_with fail
    refine (l1Byte_any B g _ h).mono ?_
    rintro r w1 ⟨⟨x, rfl, hx0, hx1⟩, hd1, hg1⟩
    go_wp2
    go_ret
    exact ⟨⟨_, rfl, (emod_bd _ hn).1, (emod_bd _ hn).2⟩, hd1, hg1⟩
  · go_enter Try.func28, Try.ntmps28
    go_wp2_with fail
    refine (l1Byte_any B g _ h).mono ?_
    rintro r w1 ⟨⟨x, rfl, hx0, hx1⟩, hd1, hg1⟩
    go_wp2_with fail
    refine (l1Byte_any B g _ hd1).mono ?_
    rintro r w2 ⟨⟨y, rfl, hy0, hy1⟩, hd2, hg2⟩
    go_wp2_with fail
    refine (l1Byte_any B g _ hd2).mono ?_
    rintro r w3 ⟨⟨z, rfl, hz0, hz1⟩, hd3, hg3⟩
    go_wp2_with fail
    refine (l1Byte_any B g _ hd3).mono ?_
    rintro r w4 ⟨⟨u, rfl, hu0, hu1⟩, hd4, hg4⟩
    go_wp2
    go_ret
    exact ⟨⟨_, rfl, (emod_bd _ hn).1, (emod_bd _ hn).2⟩, hd4, gT (gT (gT hg1 hg2) hg3) hg4⟩
def SomeB (r : Ending) : Prop := ∃ b : Bool, r = .returned (.bool b)
def SomeI (r : Ending) : Prop := ∃ x : Int, r = .returned (.int .i64 x)
def FromI (lo hi : Int) (r : Ending) : Prop := ∃ x : Int, r = .returned (.int .i64 x) ∧ lo ≤ x ∧ x ≤ hi
set_option maxHeartbeats 400000 in
theorem l1Once_any (B g : Nat) (n : Int) (w : World) (h : DS w B g) (hn : 0 < n) (hn2 : n ≤ 1000000) : Calls Try.prog 26 #[.pointer (some ⟨g, 0, none⟩), .int .i64 n] w fun r w' => SomeB r ∧ DS w' B g ∧ Gr g w w' := by
  go_enter Try.func26, Try.ntmps26
  go_wp2_with fail
  refine (l1Below_any B g n _ h hn hn2).mono ?_
  rintro r w1 ⟨⟨x, rfl, hx0, hx1⟩, hd1, hg1⟩
  go_wp2
  go_ret
  exact ⟨⟨_, rfl⟩, hd1, hg1⟩
set_option maxHeartbeats 400000 in
theorem l1From_any (B g : Nat) (lo hi : Int) (w : World) (h : DS w B g) (h1 : -1000000 ≤ lo) (h2 : lo ≤ hi) (h3 : hi - lo < 1000000) (h4 : hi ≤ 1000000) : Calls Try.prog 18 #[.pointer (some ⟨g, 0, none⟩), .int .i64 lo, .int .i64 hi] w fun r w' => FromI lo hi r ∧ DS w' B g ∧ Gr g w w' := by
  go_enter Try.func18, Try.ntmps18
  go_wp2_with fail
  refine (l1Below_any B g (hi - lo + 1) _ h (by omega) (by omega)).mono ?_
  rintro r w1 ⟨⟨x, rfl, hx0, hx1⟩, hd1, hg1⟩
  go_wp2
  go_ret
  exact ⟨⟨lo + x, rfl, by omega, by omega⟩, hd1, hg1⟩
set_option maxHeartbeats 400000 in
theorem l1Min_any (a b : Int) (w : World) : Calls Try.prog 32 #[.int .i64 a, .int .i64 b] w fun r w' => r = .returned (.int .i64 (if a < b then a else b)) ∧ w = w' := by
  by_cases h : a < b
  · rw [if_pos h]
    go_enter Try.func32, Try.ntmps32
    go_wp2
    go_ret
    exact ⟨rfl, rfl⟩
  · rw [if_neg h]
    go_enter Try.func32, Try.ntmps32
    go_wp2
    go_ret
    exact ⟨rfl, rfl⟩
set_option maxHeartbeats 400000 in
theorem l1Odd_any (B g : Nat) (w : World) (h : DS w B g) : Calls Try.prog 31 #[.pointer (some ⟨g, 0, none⟩)] w fun r w' => SomeI r ∧ DS w' B g ∧ Gr g w w' := by
  have hlt := h.lt
  go_enter Try.func31, Try.ntmps31
  go_wp2_with fail
  refine (l1Below_any B g 10 _ h.alloc (by omega) (by omega)).mono ?_
  rintro r w1 ⟨⟨x, rfl, hx0, hx1⟩, hd1, hg1⟩
  obtain ⟨k, rfl⟩ := Int.eq_ofNat_of_zero_le hx0
  have hk : k < 10 := by omega
  have hz : w.heap.size ≤ w1.heap.size := Nat.le_trans (by simp) hg1.size
  have hc : ∃ v : Int, w1.cell? ⟨w.heap.size, k, none⟩ = some (.int .i64 v) := by
    rw [gCell hg1 (by simp) (by omega)]
    have : k = 0 ∨ k = 1 ∨ k = 2 ∨ k = 3 ∨ k = 4 ∨ k = 5 ∨ k = 6 ∨ k = 7 ∨ k = 8 ∨ k = 9 := by omega
    rcases this with rfl | rfl | rfl | rfl | rfl | rfl | rfl | rfl | rfl | rfl <;> simp
  obtain ⟨v, hv⟩ := hc
  go_wp2
  go_ret
  exact ⟨⟨_, rfl⟩, hd1, gT (gA (gR _ _)) hg1⟩
set_option maxHeartbeats 400000 in
theorem l1Num_any (B g : Nat) (n : Int) (w : World) (h : DS w B g) (hn : 0 ≤ n) (hn2 : n < 1000000) : Calls Try.prog 27 #[.pointer (some ⟨g, 0, none⟩), .int .i64 n] w fun r w' => SomeI r ∧ DS w' B g ∧ Gr g w w' := by
  have hlt := h.lt
  go_enter Try.func27, Try.ntmps27
  go_wp2_with fail
  refine (l1Once_any B g 10 _ h (by omega) (by omega)).mono ?_
  rintro r w1 ⟨⟨x, rfl⟩, hd1, hg1⟩
  have hl1 := hd1.lt
  cases x
  · go_wp2_with fail
    refine (l1Once_any B g 2 _ hd1 (by omega) (by omega)).mono ?_
    rintro r w2 ⟨⟨y, rfl⟩, hd2, hg2⟩
    cases y
    · go_wp2_with fail
      refine (l1Below_any B g _ _ hd2 (by omega) (by omega)).mono ?_
      rintro r w3 ⟨⟨z, rfl, hz0, hz1⟩, hd3, hg3⟩
      go_wp2
      go_ret
      exact ⟨⟨_, rfl⟩, hd3, gT (gT hg1 hg2) hg3⟩
    · go_wp2_with fail
      refine (l1Min_any _ _ _).mono ?_
      rintro _ _ ⟨rfl, rfl⟩
      have hm : 0 ≤ (if n < 4 then n else 4) ∧ (if n < 4 then n else 4) ≤ 4 := by split <;> omega
      generalize (if n < 4 then n else 4) = m at hm
      obtain ⟨hm0, hm1⟩ := hm
      go_wp2_with fail
      refine (l1Below_any B g _ _ hd2 (by omega) (by omega)).mono ?_
      rintro r w3 ⟨⟨z, rfl, hz0, hz1⟩, hd3, hg3⟩
      go_wp2
      go_ret
      exact ⟨⟨_, rfl⟩, hd3, gT (gT hg1 hg2) hg3⟩
  · go_wp2_with fail
    refine (l1Odd_any B g _ hd1).mono ?_
    rintro r w2 ⟨⟨y, rfl⟩, hd2, hg2⟩
    have hl2 := hd2.lt
    go_wp2_with fail
    refine (l1Below_any B g 4 _ hd2.alloc (by omega) (by omega)).mono ?_
    rintro r w3 ⟨⟨x, rfl, hx0, hx1⟩, hd3, hg3⟩
    obtain ⟨k, rfl⟩ := Int.eq_ofNat_of_zero_le hx0
    have hk : k < 4 := by omega
    have hc : ∃ v : Int, w3.cell? ⟨w2.heap.size, k, none⟩ = some (.int .i64 v) := by
      rw [gCell hg3 (by simp) (by omega)]
      have : k = 0 ∨ k = 1 ∨ k = 2 ∨ k = 3 := by omega
      rcases this with rfl | rfl | rfl | rfl <;> simp
    obtain ⟨v, hv⟩ := hc
    go_wp2
    go_ret
    exact ⟨⟨_, rfl⟩, hd3, gT (gA (gT hg1 hg2)) hg3⟩
end Go.Proofs.Ytccbbdmoedmcpaa
