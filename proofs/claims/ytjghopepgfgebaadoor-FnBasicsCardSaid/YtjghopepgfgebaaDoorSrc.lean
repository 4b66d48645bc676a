/-
  Bytes that came in, and the source of choices over them (package spec: l00From, next, pick, R8Numbers): of a choice only its bounds are told.
-/
import Derived.Test.YtjghopepgfgebaaDoorCore
import Derived.Test.YtjghopepgfgebaaDoorIntS
import Derived.RegionTactic
import Derived.Deep.QuietTactic
import Derived.BigQuiet
namespace Go.Proofs.YtjghopepgfgebaaDoor
open Go.RowKit

/-- A slice that came in holds these bytes. -/
def BytesIn (w : World) (v : Value) (zs : List Int) : Prop :=
  (∃ a cap, v = .slice a 0 cap ∧ zs = []) ∨ (∃ b off cap, v = .slice (some ⟨b, off, none⟩) zs.length cap ∧ b < w.heap.size ∧ ∀ j, (h : j < zs.length) → w.cell? ⟨b, off + j, none⟩ = some (.int .u8 zs[j]) ∧ 0 ≤ zs[j] ∧ zs[j] ≤ 255)
theorem BytesIn.below {w w' : World} {v : Value} {zs : List Int} (h : BytesIn w v zs) (hb : Below w.heap.size w w') : BytesIn w' v zs := by
  rcases h with h | ⟨b, off, cap, hv, hl, hc⟩
  · exact .inl h
  · exact .inr ⟨b, off, cap, hv, by have := hb.size; omega, fun j hj => ⟨(hb.cell (p := ⟨b, off + j, none⟩) hl).trans (hc j hj).1, (hc j hj).2⟩⟩
theorem BytesIn.len {w : World} {v : Value} {zs : List Int} (h : BytesIn w v zs) : ∃ a cap, v = .slice a zs.length cap := by
  rcases h with ⟨a, cap, rfl, rfl⟩ | ⟨b, off, cap, rfl, _⟩
  · exact ⟨a, cap, rfl⟩
  · exact ⟨_, cap, rfl⟩

/-- The source lies in block g, over the bytes of W, k of them read. -/
structure SrcAt (W w : World) (g : Nat) (a : Option Addr) (n cap k : Nat) : Prop where
  c0 : w.cell? ⟨g, 0, none⟩ = some (.slice a n cap)
  c1 : w.cell? ⟨g, 1, none⟩ = some (.int .i64 k)
  c2 : ∃ s : Int, w.cell? ⟨g, 2, none⟩ = some (.int .u64 s) ∧ 0 ≤ s ∧ s < 18446744073709551616
  fr : ∀ i, w.frozen? ⟨g, i, none⟩ = false
  old : W.heap.size ≤ g
  lt : g < w.heap.size
  bel : Below W.heap.size W w

theorem u64_range (x : Int) : 0 ≤ IntKind.u64.wrap x ∧ IntKind.u64.wrap x < 18446744073709551616 := by
  rw [IntKind.wrap_u64]; omega

theorem SrcAt.step {W w : World} {g n cap k : Nat} {a : Option Addr} (h : SrcAt W w g a n cap k) (k' : Int) (hk : k' = ((k + 1 : Nat) : Int)) (s : Int) (h0 : 0 ≤ s) (h1 : s < 18446744073709551616) :
    SrcAt W ((w.setCell ⟨g, 1, none⟩ (.int .i64 k')).setCell ⟨g, 2, none⟩ (.int .u64 s)) g a n cap (k + 1) := by
  obtain ⟨s0, c2, _⟩ := h.c2
  refine ⟨?_, ?_, ⟨s, ?_, h0, h1⟩, ?_, h.old, ?_, (h.bel.setCell h.old _).setCell h.old _⟩
  · rw [World.cell?_setCell_other _ _ _ _ (by simp), World.cell?_setCell_other _ _ _ _ (by simp)]; exact h.c0
  · rw [World.cell?_setCell_other _ _ _ _ (by simp), World.cell?_setCell_same _ _ _ h.c1, hk]
  · exact World.cell?_setCell_same _ _ _ (u := .int .u64 s0) (by rw [World.cell?_setCell_other _ _ _ _ (by simp)]; exact c2)
  · intro i; rw [World.frozen?_setCell, World.frozen?_setCell]; exact h.fr i
  · rw [World.size_setCell, World.size_setCell]; exact h.lt

/-- The call returned a byte, and the source has gone one further. -/
def NextPost (W : World) (g : Nat) (a : Option Addr) (n cap k : Nat) (e : Ending) (w' : World) : Prop :=
  ∃ r : Int, e = .returned (.int .i64 r) ∧ 0 ≤ r ∧ r ≤ 255 ∧ SrcAt W w' g a n cap (k + 1)

theorem SrcAt.drewN {W w : World} {g n cap k : Nat} {a : Option Addr} (h : SrcAt W w g a n cap k) (q : Nat) : SrcAt W (w.drewN q) g a n cap k :=
  ⟨h.c0, h.c1, h.c2, h.fr, h.old, h.lt, bel_drewN h.bel q⟩

theorem and_255 (x : Int) : 0 ≤ bits .and .u64 x 255 ∧ bits .and .u64 x 255 ≤ 255 := by
  have h : (BitVec.ofInt IntKind.u64.bits x &&& BitVec.ofInt IntKind.u64.bits 255).toNat ≤ 255 := by
    rw [BitVec.toNat_and]
    exact Nat.le_trans Nat.and_le_right (by decide)
  simp only [bits]
  rw [IntKind.wrap_u64]
  omega

set_option maxHeartbeats 1000000 in
theorem next_old (W w : World) (g cap k : Nat) (b off : Nat) (zs : List Int) (h : SrcAt W w g (some ⟨b, off, none⟩) zs.length cap k) (hk : k < zs.length) (hb : zs.length ≤ 1048576) (z : Int) (hz : w.cell? ⟨b, off + k, none⟩ = some (.int .u8 z)) (z0 : 0 ≤ z) (z1 : z ≤ 255) :
    Calls Tryd.prog 92 #[.pointer (some ⟨g, 0, none⟩)] w (NextPost W g (some ⟨b, off, none⟩) zs.length cap k) := by
  have c0 := h.c0
  have c1 := h.c1
  obtain ⟨s, c2, s0, s1⟩ := h.c2
  have f1 := h.fr 1
  have f2 := h.fr 2
  have ST := Lib.hid (fun k' hk' s' h0 h1 => h.step k' hk' s' h0 h1)
  have H := Lib.hid h
  clear h
  generalize zs.length = n at *
  have d1 : decide ((k : Int) < (n : Int)) = true := by simpa using hk
  go_enter Tryd.func92, Tryd.ntmps92
  go_wp2_with fail
  go_quiet (fail)
  rename Nat => q1
  go_wp2_with fail
  go_quiet (fail)
  rename Nat => q2
  go_wp2_with fail
  have hs := (H.out.drewN (q1 + q2)).step ((k : Int) + 1) (by omega) _ (u64_range (IntKind.u64.wrap (IntKind.u64.wrap (s * 6364136223846793005) + z) + 1442695040888963407)).1 (u64_range _).2
  clear c0 c1 c2 f1 f2 hz H d1
  generalize (((w.drewN (q1 + q2)).setCell ⟨g, 1, none⟩ (Value.int IntKind.i64 ((k : Int) + 1))).setCell ⟨g, 2, none⟩ (Value.int IntKind.u64 (IntKind.u64.wrap (IntKind.u64.wrap (IntKind.u64.wrap (s * 6364136223846793005) + z) + 1442695040888963407)))) = w2 at *
  have c0 := hs.c0
  have c1 : w2.cell? ⟨g, 1, none⟩ = some (.int .i64 ((k : Int) + 1)) := hs.c1
  have d2 : decide ((k : Int) + 1 ≤ (n : Int)) = true := by simp; omega
  have HS := Lib.hid hs
  clear hs
  go_quiet (fail)
  go_wp2_with fail
  go_ret
  exact ⟨z, rfl, z0, z1, HS.out.drewN _⟩

set_option maxHeartbeats 1000000 in
theorem next_new (W w : World) (g n cap k : Nat) (a : Option Addr) (h : SrcAt W w g a n cap k) (hk : n ≤ k) (hk' : k ≤ 1048576) :
    Calls Tryd.prog 92 #[.pointer (some ⟨g, 0, none⟩)] w (NextPost W g a n cap k) := by
  have c0 := h.c0
  have c1 := h.c1
  obtain ⟨s, c2, s0, s1⟩ := h.c2
  have f1 := h.fr 1
  have f2 := h.fr 2
  have H := Lib.hid h
  clear h
  have d1 : decide ((k : Int) < (n : Int)) = false := by simp; omega
  go_enter Tryd.func92, Tryd.ntmps92
  go_wp2_with fail
  go_quiet (fail)
  rename Nat => q1
  go_wp2_with fail
  have hs := (H.out.drewN q1).step ((k : Int) + 1) (by omega) _ (u64_range (IntKind.u64.wrap (IntKind.u64.wrap (s * 6364136223846793005)) + 1442695040888963407)).1 (u64_range _).2
  clear c0 c1 c2 f1 f2 H d1
  generalize (((w.drewN q1).setCell ⟨g, 1, none⟩ (Value.int IntKind.i64 ((k : Int) + 1))).setCell ⟨g, 2, none⟩ (Value.int IntKind.u64 (IntKind.u64.wrap (IntKind.u64.wrap (IntKind.u64.wrap (s * 6364136223846793005)) + 1442695040888963407)))) = w2 at *
  have c0 := hs.c0
  have c1 : w2.cell? ⟨g, 1, none⟩ = some (.int .i64 ((k : Int) + 1)) := hs.c1
  obtain ⟨t, c2, t0, t1⟩ := hs.c2
  have d2 : decide ((k : Int) + 1 ≤ (n : Int)) = false := by simp; omega
  have HS := Lib.hid hs
  clear hs
  go_quiet (fail)
  go_wp2_with fail
  obtain ⟨e0, e1⟩ := and_255 (t / 1099511627776)
  generalize bits BinOp.and IntKind.u64 (t / 1099511627776) 255 = r at *
  have er : wrap64 r = r := IntWalk.wrap64_in _ (by omega)
  rw [er]
  go_ret
  exact ⟨r, rfl, e0, e1, HS.out.drewN _⟩

theorem next_any {W w : World} {g n cap k : Nat} {a : Option Addr} {zs : List Int} (hin : BytesIn W (.slice a n cap) zs) (hn : zs.length ≤ 1048576) (h : SrcAt W w g a n cap k) (hk : k ≤ 1000) :
    Calls Tryd.prog 92 #[.pointer (some ⟨g, 0, none⟩)] w (NextPost W g a n cap k) := by
  rcases hin with ⟨a', cap', hv, rfl⟩ | ⟨b, off, cap', hv, hl, hc⟩
  · cases hv
    exact next_new W w g 0 cap k a h (by omega) (by omega)
  · cases hv
    by_cases c : k < zs.length
    · exact next_old W w g cap k b off zs h c hn zs[k] ((h.bel.cell (p := ⟨b, off + k, none⟩) hl).trans (hc k c).1) (hc k c).2.1 (hc k c).2.2
    · exact next_new W w g _ cap k _ h (by omega) (by omega)

/-- The call returned a number below m, and the source has gone two further. -/
def PickPost (W : World) (m : Int) (g : Nat) (a : Option Addr) (n cap k : Nat) (e : Ending) (w' : World) : Prop :=
  ∃ r : Int, e = .returned (.int .i64 r) ∧ 0 ≤ r ∧ r < m ∧ SrcAt W w' g a n cap (k + 2)

set_option maxHeartbeats 1000000 in
theorem pick_any {W w : World} {g n cap k : Nat} {a : Option Addr} {zs : List Int} (m : Int) (m0 : 201 ≤ m) (m1 : m ≤ 65536) (hin : BytesIn W (.slice a n cap) zs) (hn : zs.length ≤ 1048576) (h : SrcAt W w g a n cap k) (hk : k ≤ 100) :
    Calls Tryd.prog 54 #[.pointer (some ⟨g, 0, none⟩), .int .i64 m] w (PickPost W m g a n cap k) := by
  have IN := Lib.hid hin
  have H := Lib.hid h
  clear hin h
  have hm : (m == 0) = false := by simp; omega
  go_enter Tryd.func54, Tryd.ntmps54
  go_wp2_with fail
  refine (next_any IN.out hn H.out (by omega)).mono ?_
  rintro e w1 ⟨r, rfl, r0, r1, h1⟩
  have H1 := Lib.hid h1
  clear h1 H
  go_wp2_with fail
  refine (next_any IN.out hn H1.out (by omega)).mono ?_
  rintro e w2 ⟨q, rfl, q0, q1, h2⟩
  have H2 := Lib.hid h2
  clear h2 H1
  have t0 : 0 ≤ r * 256 + q := by omega
  have e1 : 0 ≤ (r * 256 + q) % m := Int.emod_nonneg _ (by omega)
  have e2 : (r * 256 + q) % m < m := Int.emod_lt_of_pos _ (by omega)
  have t1 : r * 256 + q ≤ 65535 := by omega
  go_wp2_with fail
  go_ret
  exact ⟨_, rfl, by omega, by omega, H2.out⟩

set_option maxHeartbeats 400000 in
theorem from_any (a : Option Addr) (n cap : Nat) (w : World) :
    Calls Tryd.prog 53 #[.slice a n cap] w fun e w' => e = .returned (.pointer (some ⟨w.heap.size, 0, none⟩)) ∧ SrcAt w w' w.heap.size a n cap 0 := by
  go_enter Tryd.func53, Tryd.ntmps53
  go_wp2_with fail
  go_ret
  refine ⟨rfl, ⟨by simp, by simp, ⟨0, by simp, by omega, by omega⟩, fun i => by simp, Nat.le_refl _, by simp, (Below.refl _ _).alloc (Nat.le_refl _) _⟩⟩

/-- Two numbers within their bounds. -/
def NumsPost (W : World) (e : Ending) (w' : World) : Prop :=
  ∃ a b : Int, e = .returned (.tuple #[.int .i64 a, .int .i64 b]) ∧ -100000 ≤ a ∧ a ≤ 3600000000 ∧ 1 ≤ b ∧ b ≤ 5000 ∧ Below W.heap.size W w'

set_option maxHeartbeats 1000000 in
theorem numbers_any {w : World} {n cap : Nat} {a : Option Addr} {zs : List Int} (hin : BytesIn w (.slice a n cap) zs) (hn : zs.length ≤ 1048576) :
    Calls Tryd.prog 24 #[.slice a n cap] w (NumsPost w) := by
  have IN := Lib.hid hin
  clear hin
  go_enter Tryd.func24, Tryd.ntmps24
  go_wp2_with fail
  refine (from_any a n cap w).mono ?_
  rintro e w1 ⟨rfl, h1⟩
  generalize w.heap.size = g at h1 ⊢
  have H1 := Lib.hid h1
  clear h1
  go_wp2_with fail
  refine (pick_any 60000 (by omega) (by omega) IN.out hn H1.out (by omega)).mono ?_
  rintro e w2 ⟨x, rfl, x0, x1, h2⟩
  have H2 := Lib.hid h2
  clear h2 H1
  go_wp2_with fail
  refine (pick_any 60000 (by omega) (by omega) IN.out hn H2.out (by omega)).mono ?_
  rintro e w3 ⟨y, rfl, y0, y1, h3⟩
  have H3 := Lib.hid h3
  clear h3 H2
  have p0 : 0 ≤ x * y := Int.mul_nonneg x0 y0
  have p1 : x * y ≤ 60000 * 60000 := Int.mul_le_mul (by omega) (by omega) y0 (by omega)
  go_wp2_with fail
  refine (pick_any 5000 (by omega) (by omega) IN.out hn H3.out (by omega)).mono ?_
  rintro e w4 ⟨z, rfl, z0, z1, h4⟩
  have hb := h4.bel
  clear h4 H3
  go_wp2_with fail
  go_ret2
  exact ⟨_, _, rfl, by omega, by omega, by omega, by omega, hb⟩

end Go.Proofs.YtjghopepgfgebaaDoor
