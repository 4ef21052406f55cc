/-
  The draws of chapter 1: a cursor over at most 4096 bytes is made; what is drawn of it are some cells and some numbers.
-/
import Derived.Test.YtccbbdmoedmcpaaDraw
namespace Go.Proofs.Ytccbbdmoedmcpaa
open Go.RowKit
set_option maxHeartbeats 400000 in
theorem l1New_any (B n cap : Nat) (a : Option Addr) (bs : Nat → Int) (w : World) (hB : B ≤ w.heap.size) (hn : n ≤ 4096) (hbs : ∀ j, 0 ≤ bs j ∧ bs j ≤ 255) (h : Seg w B a n 1 (fun j _ => .int .u8 (bs j))) :
    Calls Try.prog 16 #[.slice a n cap] w fun r w' => ∃ g, r = .returned (.pointer (some ⟨g, 0, none⟩)) ∧ DS w' B g ∧ w.heap.size ≤ g ∧ Below w.heap.size w w' := by
  have HS := Lib.hid h
  have HB := Lib.hid hbs
  clear h hbs
  go_enter Try.func16, Try.ntmps16
  go_wp2
  go_loop [3, 4] (fun h i => ∃ (H : Int) (k : Nat), k ≤ n ∧ i = .int .i64 k ∧ h = .int .i64 H) (fun _ i => n - (intOf i).toNat)
  case atStart => exact ⟨_, 0, Nat.zero_le _, rfl, rfl⟩
  case round =>
    obtain ⟨H, k, hk, rfl, rfl⟩ := hrel
    by_cases hlt : k < n
    · obtain h0 | ⟨b, o, rfl, hb, hc⟩ := HS.out
      · omega
      have cb := hc k 0 hlt (by omega)
      have hbb := HB.out k
      simp only [Nat.add_zero, Nat.mul_one] at cb
      clear hc
      generalize bs k = y at cb hbb
      obtain ⟨hy0, hy1⟩ := hbb
      go_wp2
      go_round
      case rel => exact ⟨_, k + 1, by omega, by go_num, rfl⟩
      case measure => simp [intOf]; omega
    · have : k = n := by omega
      subst this
      go_wp2
      go_ret
      exact ⟨_, rfl, ⟨a, k, cap, 0, _, bs, heap_alloc_new w _, by omega, hn, hB, HB.out, HS.out.below ((Below.refl _ _).alloc hB _)⟩, Nat.le_refl _, (Below.refl _ _).alloc (Nat.le_refl _) _⟩
def SomeC (r : Ending) : Prop := ∃ s e t : Int, r = .returned (.agg #[.int .i64 s, .int .i64 e, .int .i64 t])
def byteF (bs : Nat → Int) (i _j : Nat) : Value := .int .u8 (bs i)
/-- What the laws are handed: at most 4096 bytes. -/
structure Code (w : World) (B : Nat) (a : Option Addr) (n : Nat) (bs : Nat → Int) : Prop where
  len : n ≤ 4096
  bd : ∀ j, 0 ≤ bs j ∧ bs j ≤ 255
  seg : Seg w B a n 1 (fun j _ => .int .u8 (bs j))
theorem Code.below {w w' : World} {B n : Nat} {a : Option Addr} {bs : Nat → Int} (h : Code w B a n bs) (k : Below B w w') : Code w' B a n bs := ⟨h.len, h.bd, h.seg.below k⟩
theorem Code.more {w : World} {B B' n : Nat} {a : Option Addr} {bs : Nat → Int} (h : Code w B a n bs) (k : B ≤ B') : Code w B' a n bs := ⟨h.len, h.bd, h.seg.more k⟩
theorem new_any (B n cap : Nat) (a : Option Addr) (bs : Nat → Int) (w : World) (h : Code w B a n bs) (hB : B ≤ w.heap.size) :
    Calls Try.prog 16 #[.slice a n cap] w fun r w' => ∃ g, r = .returned (.pointer (some ⟨g, 0, none⟩)) ∧ DS w' B g ∧ w.heap.size ≤ g ∧ Below w.heap.size w w' :=
  l1New_any B n cap a bs w hB h.len h.bd h.seg
end Go.Proofs.Ytccbbdmoedmcpaa
