/-
  Bytes that came in, and the source of choices over them (package spec: l00From, next, pick, R8Numbers): of a choice only its bounds are told.
  What the source draws for a direction of the dome (package spec: l02Draw, l06DrawTurn, l10DrawSpot): its bounds.
  A drawn projector (package spec: l10DrawOne): its bounds.
  A text of several, and a projector that is bent, seldom (package spec: text, l10Bend): bounds.
  Plain mathematics of decimal digits: no program is named here.
  Decimals of small numbers (package spec: l01Dec), without the library's texts.
  The drawn projectors (package spec: l10Draw): an own row of them, small in number and in what they hold.
  What FnWeights draws (package spec: DrawWeightsAt).
  The laws' own helpers on bytes: b10Long, b10At, b10Wide, b10Abs; draws of angles and values (package spec).
-/
import Derived.Test.YtlklcpnnaolbeaaGreatDoorCore
import Derived.Test.YtlklcpnnaolbeaaGreatDoorQ2
import Derived.RegionTactic
import Derived.Deep.QuietTactic
import Derived.BigQuiet
import Derived.Lib.ItoaNum
import Derived.Laws.BytesArg
import Derived.WalkKit
import Derived.ProofKit
import Derived.OpenShut
import Derived.WalkLawsBesides
import Derived.Lib.Hide
import Derived.Lib.SmallJoins
import Derived.Lib.LaidTab
import Derived.Lib.AppendIntMem
import Derived.Outline
import Derived.Test.YtlklcpnnaolbeaaGreatDoorProjR
import Derived.Laws.CopyOwn
import Derived.Handy
import Derived.Deep.LoopGhost
namespace Go.Proofs.YtlklcpnnaolbeaaGreatDoor
section
open Go.RowKit

/-- A slice that came in holds these bytes. -/
def BytesIn (w : World) (v : Value) (zs : List Int) : Prop :=
  (∃ a cap, v = .slice a 0 cap ∧ zs = []) ∨ (∃ b off cap, v = .slice (some ⟨b, off, none⟩) zs.length cap ∧ b < w.heap.size ∧ ∀ j, (h : j < zs.length) → w.cell? ⟨b, off + j, none⟩ = some (.int .u8 zs[j]) ∧ 0 ≤ zs[j] ∧ zs[j] ≤ 255)
theorem BytesIn.below {w w' : World} {v : Value} {zs : List Int} (h : BytesIn w v zs) (hb : Below w.heap.size w w') : BytesIn w' v zs := by
  rcases h with h | ⟨b, off, cap, hv, hl, hc⟩
  · exact .inl h
  · exact .inr ⟨b, off, cap, hv, by have := hb.size; omega, fun j hj => ⟨(hb.cell (p := ⟨b, off + j, none⟩) hl).trans (hc j hj).1, (hc j hj).2⟩⟩
theorem BytesIn.len {w : World} {v : Value} {zs : List Int} (h : BytesIn w v zs) : ∃ a cap, v = .slice a zs.length cap := by
  rcases h with ⟨a, cap, rfl, rfl⟩ | ⟨b, off, cap, rfl, _⟩
  · exact ⟨a, cap, rfl⟩
  · exact ⟨_, cap, rfl⟩

/-- The source lies in block g, over the bytes of W, k of them read. -/
structure SrcAt (W w : World) (g : Nat) (a : Option Addr) (n cap k : Nat) : Prop where
  c0 : w.cell? ⟨g, 0, none⟩ = some (.slice a n cap)
  c1 : w.cell? ⟨g, 1, none⟩ = some (.int .i64 k)
  c2 : ∃ s : Int, w.cell? ⟨g, 2, none⟩ = some (.int .u64 s) ∧ 0 ≤ s ∧ s < 18446744073709551616
  fr : ∀ i, w.frozen? ⟨g, i, none⟩ = false
  old : W.heap.size ≤ g
  lt : g < w.heap.size
  bel : Below W.heap.size W w

theorem u64_range (x : Int) : 0 ≤ IntKind.u64.wrap x ∧ IntKind.u64.wrap x < 18446744073709551616 := by
  rw [IntKind.wrap_u64]; omega

theorem SrcAt.step {W w : World} {g n cap k : Nat} {a : Option Addr} (h : SrcAt W w g a n cap k) (k' : Int) (hk : k' = ((k + 1 : Nat) : Int)) (s : Int) (h0 : 0 ≤ s) (h1 : s < 18446744073709551616) :
    SrcAt W ((w.setCell ⟨g, 1, none⟩ (.int .i64 k')).setCell ⟨g, 2, none⟩ (.int .u64 s)) g a n cap (k + 1) := by
  obtain ⟨s0, c2, _⟩ := h.c2
  refine ⟨?_, ?_, ⟨s, ?_, h0, h1⟩, ?_, h.old, ?_, (h.bel.setCell h.old _).setCell h.old _⟩
  · rw [World.cell?_setCell_other _ _ _ _ (by simp), World.cell?_setCell_other _ _ _ _ (by simp)]; exact h.c0
  · rw [World.cell?_setCell_other _ _ _ _ (by simp), World.cell?_setCell_same _ _ _ h.c1, hk]
  · exact World.cell?_setCell_same _ _ _ (u := .int .u64 s0) (by rw [World.cell?_setCell_other _ _ _ _ (by simp)]; exact c2)
  · intro i; rw [World.frozen?_setCell, World.frozen?_setCell]; exact h.fr i
  · rw [World.size_setCell, World.size_setCell]; exact h.lt

theorem gq_drewN (w : World) (q : Nat) (row : Option Nat) : w.grownBy (w.drewN q) row := ⟨rfl, rfl, rfl, Nat.le_refl _, fun _ _ _ => rfl⟩
theorem gq_trans {a b c : World} {row : Option Nat} (h : a.grownBy b row) (k : b.grownBy c row) : a.grownBy c row :=
  ⟨k.os.trans h.os, k.tape.trans h.tape, k.output.trans h.output, Nat.le_trans h.size k.size, fun i hi hne => (k.block i (Nat.lt_of_lt_of_le hi h.size) hne).trans (h.block i hi hne)⟩
theorem gq_set (w : World) (g j : Nat) (v : Value) : w.grownBy (w.setCell ⟨g, j, none⟩ v) (some g) := by
  have hb : Below 0 w (w.setCell ⟨g, j, none⟩ v) := (Below.refl _ _).setCell (Nat.zero_le _) _
  refine ⟨hb.os, hb.tape, hb.output, hb.size, fun k hk hne => ?_⟩
  have hne' : k ≠ g := fun e => hne (by rw [e])
  exact Below.heap_setCell _ _ _ k hne'
theorem gq_cell {w w' : World} {g b : Nat} (h : w.grownBy w' (some g)) (hb : b < w.heap.size) (hne : b ≠ g) : (∀ i, w'.cell? ⟨b, i, none⟩ = w.cell? ⟨b, i, none⟩) ∧ ∀ i, w'.frozen? ⟨b, i, none⟩ = w.frozen? ⟨b, i, none⟩ :=
  ⟨fun i => World.cell?_of_block (h.block b hb (by simpa using hne)), fun i => World.frozen?_of_block (h.block b hb (by simpa using hne))⟩
theorem SrcAt.keep {W w w' : World} {g n cap k : Nat} {a : Option Addr} (h : SrcAt W w g a n cap k) (hb : Below w.heap.size w w') : SrcAt W w' g a n cap k := by
  obtain ⟨s, c2, s0, s1⟩ := h.c2
  have := hb.size
  have hl := h.lt
  exact ⟨(hb.cell (p := ⟨g, 0, none⟩) h.lt).trans h.c0, (hb.cell (p := ⟨g, 1, none⟩) h.lt).trans h.c1, ⟨s, (hb.cell (p := ⟨g, 2, none⟩) h.lt).trans c2, s0, s1⟩, fun i => (hb.frozen (p := ⟨g, i, none⟩) h.lt).trans (h.fr i), h.old, by omega, h.bel.trans (hb.mono h.bel.size)⟩
theorem SrcAt.other {W w : World} {g n cap k : Nat} {a : Option Addr} (h : SrcAt W w g a n cap k) (b j : Nat) (v : Value) (hne : g ≠ b) (hW : W.heap.size ≤ b) : SrcAt W (w.setCell ⟨b, j, none⟩ v) g a n cap k := by
  obtain ⟨s, c2, s0, s1⟩ := h.c2
  refine ⟨?_, ?_, ⟨s, ?_, s0, s1⟩, fun i => by rw [World.frozen?_setCell]; exact h.fr i, h.old, by rw [World.size_setCell]; exact h.lt, h.bel.setCell hW _⟩
  · rw [World.cell?_setCell_other _ _ _ _ (by simp [hne])]; exact h.c0
  · rw [World.cell?_setCell_other _ _ _ _ (by simp [hne])]; exact h.c1
  · rw [World.cell?_setCell_other _ _ _ _ (by simp [hne])]; exact c2

/-- The call returned a byte, and the source has gone one further. -/
def NextPost (W w : World) (g : Nat) (a : Option Addr) (n cap k : Nat) (e : Ending) (w' : World) : Prop :=
  ∃ r : Int, e = .returned (.int .i64 r) ∧ 0 ≤ r ∧ r ≤ 255 ∧ SrcAt W w' g a n cap (k + 1) ∧ w.grownBy w' (some g)

theorem SrcAt.drewN {W w : World} {g n cap k : Nat} {a : Option Addr} (h : SrcAt W w g a n cap k) (q : Nat) : SrcAt W (w.drewN q) g a n cap k :=
  ⟨h.c0, h.c1, h.c2, h.fr, h.old, h.lt, bel_drewN h.bel q⟩

theorem and_255 (x : Int) : 0 ≤ bits .and .u64 x 255 ∧ bits .and .u64 x 255 ≤ 255 := by
  have h : (BitVec.ofInt IntKind.u64.bits x &&& BitVec.ofInt IntKind.u64.bits 255).toNat ≤ 255 := by
    rw [BitVec.toNat_and]
    exact Nat.le_trans Nat.and_le_right (by decide)
  simp only [bits]
  rw [IntKind.wrap_u64]
  omega

set_option maxHeartbeats 1000000 in
theorem next_old (W w : World) (g cap k : Nat) (b off : Nat) (zs : List Int) (h : SrcAt W w g (some ⟨b, off, none⟩) zs.length cap k) (hk : k < zs.length) (hb : zs.length ≤ 1048576) (z : Int) (hz : w.cell? ⟨b, off + k, none⟩ = some (.int .u8 z)) (z0 : 0 ≤ z) (z1 : z ≤ 255) :
    Calls Tryz.prog 107 #[.pointer (some ⟨g, 0, none⟩)] w (NextPost W w g (some ⟨b, off, none⟩) zs.length cap k) := by
  have c0 := h.c0
  have c1 := h.c1
  obtain ⟨s, c2, s0, s1⟩ := h.c2
  have f1 := h.fr 1
  have f2 := h.fr 2
  have ST := Lib.hid (fun k' hk' s' h0 h1 => h.step k' hk' s' h0 h1)
  have H := Lib.hid h
  clear h
  generalize zs.length = n at *
  have d1 : decide ((k : Int) < (n : Int)) = true := by simpa using hk
  go_enter Tryz.func107, Tryz.ntmps107
  go_wp2_with fail
  go_quiet (fail)
  rename Nat => q1
  go_wp2_with fail
  go_quiet (fail)
  rename Nat => q2
  go_wp2_with fail
  have hs := (H.out.drewN (q1 + q2)).step ((k : Int) + 1) (by omega) _ (u64_range (IntKind.u64.wrap (IntKind.u64.wrap (s * 6364136223846793005) + z) + 1442695040888963407)).1 (u64_range _).2
  clear c0 c1 c2 f1 f2 hz H d1
  have hg := gq_trans (gq_trans (gq_drewN w (q1 + q2) (some g)) (gq_set (w.drewN (q1 + q2)) g 1 (Value.int IntKind.i64 ((k : Int) + 1)))) (gq_set ((w.drewN (q1 + q2)).setCell ⟨g, 1, none⟩ (Value.int IntKind.i64 ((k : Int) + 1))) g 2 (Value.int IntKind.u64 (IntKind.u64.wrap (IntKind.u64.wrap (IntKind.u64.wrap (s * 6364136223846793005) + z) + 1442695040888963407))))
  generalize (((w.drewN (q1 + q2)).setCell ⟨g, 1, none⟩ (Value.int IntKind.i64 ((k : Int) + 1))).setCell ⟨g, 2, none⟩ (Value.int IntKind.u64 (IntKind.u64.wrap (IntKind.u64.wrap (IntKind.u64.wrap (s * 6364136223846793005) + z) + 1442695040888963407)))) = w2 at *
  have c0 := hs.c0
  have c1 : w2.cell? ⟨g, 1, none⟩ = some (.int .i64 ((k : Int) + 1)) := hs.c1
  have d2 : decide ((k : Int) + 1 ≤ (n : Int)) = true := by simp; omega
  have HS := Lib.hid hs
  have HG := Lib.hid hg
  clear hs hg
  go_quiet (fail)
  go_wp2_with fail
  go_ret
  exact ⟨z, rfl, z0, z1, HS.out.drewN _, gq_trans HG.out (gq_drewN _ _ _)⟩

set_option maxHeartbeats 1000000 in
theorem next_new (W w : World) (g n cap k : Nat) (a : Option Addr) (h : SrcAt W w g a n cap k) (hk : n ≤ k) (hk' : k ≤ 1048576) :
    Calls Tryz.prog 107 #[.pointer (some ⟨g, 0, none⟩)] w (NextPost W w g a n cap k) := by
  have c0 := h.c0
  have c1 := h.c1
  obtain ⟨s, c2, s0, s1⟩ := h.c2
  have f1 := h.fr 1
  have f2 := h.fr 2
  have H := Lib.hid h
  clear h
  have d1 : decide ((k : Int) < (n : Int)) = false := by simp; omega
  go_enter Tryz.func107, Tryz.ntmps107
  go_wp2_with fail
  go_quiet (fail)
  rename Nat => q1
  go_wp2_with fail
  have hs := (H.out.drewN q1).step ((k : Int) + 1) (by omega) _ (u64_range (IntKind.u64.wrap (IntKind.u64.wrap (s * 6364136223846793005)) + 1442695040888963407)).1 (u64_range _).2
  clear c0 c1 c2 f1 f2 H d1
  have hg := gq_trans (gq_trans (gq_drewN w q1 (some g)) (gq_set (w.drewN q1) g 1 (Value.int IntKind.i64 ((k : Int) + 1)))) (gq_set ((w.drewN q1).setCell ⟨g, 1, none⟩ (Value.int IntKind.i64 ((k : Int) + 1))) g 2 (Value.int IntKind.u64 (IntKind.u64.wrap (IntKind.u64.wrap (IntKind.u64.wrap (s * 6364136223846793005)) + 1442695040888963407))))
  generalize (((w.drewN q1).setCell ⟨g, 1, none⟩ (Value.int IntKind.i64 ((k : Int) + 1))).setCell ⟨g, 2, none⟩ (Value.int IntKind.u64 (IntKind.u64.wrap (IntKind.u64.wrap (IntKind.u64.wrap (s * 6364136223846793005)) + 1442695040888963407)))) = w2 at *
  have c0 := hs.c0
  have c1 : w2.cell? ⟨g, 1, none⟩ = some (.int .i64 ((k : Int) + 1)) := hs.c1
  obtain ⟨t, c2, t0, t1⟩ := hs.c2
  have d2 : decide ((k : Int) + 1 ≤ (n : Int)) = false := by simp; omega
  have HS := Lib.hid hs
  have HG := Lib.hid hg
  clear hs hg
  go_quiet (fail)
  go_wp2_with fail
  obtain ⟨e0, e1⟩ := and_255 (t / 1099511627776)
  generalize bits BinOp.and IntKind.u64 (t / 1099511627776) 255 = r at *
  have er : wrap64 r = r := IntWalk.wrap64_in _ (by omega)
  rw [er]
  go_ret
  exact ⟨r, rfl, e0, e1, HS.out.drewN _, gq_trans HG.out (gq_drewN _ _ _)⟩

theorem next_any {W w : World} {g n cap k : Nat} {a : Option Addr} {zs : List Int} (hin : BytesIn W (.slice a n cap) zs) (hn : zs.length ≤ 1048576) (h : SrcAt W w g a n cap k) (hk : k ≤ 1000) :
    Calls Tryz.prog 107 #[.pointer (some ⟨g, 0, none⟩)] w (NextPost W w g a n cap k) := by
  rcases hin with ⟨a', cap', hv, rfl⟩ | ⟨b, off, cap', hv, hl, hc⟩
  · cases hv
    exact next_new W w g 0 cap k a h (by omega) (by omega)
  · cases hv
    by_cases c : k < zs.length
    · exact next_old W w g cap k b off zs h c hn zs[k] ((h.bel.cell (p := ⟨b, off + k, none⟩) hl).trans (hc k c).1) (hc k c).2.1 (hc k c).2.2
    · exact next_new W w g _ cap k _ h (by omega) (by omega)

/-- The call returned a number below m, and the source has gone two further. -/
def PickPost (W w : World) (m : Int) (g : Nat) (a : Option Addr) (n cap k : Nat) (e : Ending) (w' : World) : Prop :=
  ∃ r : Int, e = .returned (.int .i64 r) ∧ 0 ≤ r ∧ r < m ∧ SrcAt W w' g a n cap (k + 2) ∧ w.grownBy w' (some g)

set_option maxHeartbeats 1000000 in
theorem pick_any {W w : World} {g n cap k : Nat} {a : Option Addr} {zs : List Int} (m : Int) (m0 : 201 ≤ m) (m1 : m ≤ 1000000000) (hin : BytesIn W (.slice a n cap) zs) (hn : zs.length ≤ 1048576) (h : SrcAt W w g a n cap k) (hk : k ≤ 100) :
    Calls Tryz.prog 73 #[.pointer (some ⟨g, 0, none⟩), .int .i64 m] w (PickPost W w m g a n cap k) := by
  have IN := Lib.hid hin
  have H := Lib.hid h
  clear hin h
  have hm : (m == 0) = false := by simp; omega
  go_enter Tryz.func73, Tryz.ntmps73
  go_wp2_with fail
  refine (next_any IN.out hn H.out (by omega)).mono ?_
  rintro e w1 ⟨r, rfl, r0, r1, h1, g1⟩
  have H1 := Lib.hid h1
  have G1 := Lib.hid g1
  clear h1 H g1
  go_wp2_with fail
  refine (next_any IN.out hn H1.out (by omega)).mono ?_
  rintro e w2 ⟨q, rfl, q0, q1, h2, g2⟩
  have H2 := Lib.hid h2
  have G2 := Lib.hid (gq_trans G1.out g2)
  clear h2 H1 g2 G1
  have t0 : 0 ≤ r * 256 + q := by omega
  have e1 : 0 ≤ (r * 256 + q) % m := Int.emod_nonneg _ (by omega)
  have e2 : (r * 256 + q) % m < m := Int.emod_lt_of_pos _ (by omega)
  have t1 : r * 256 + q ≤ 65535 := by omega
  go_wp2_with fail
  go_ret
  exact ⟨_, rfl, by omega, by omega, H2.out, G2.out⟩

set_option maxHeartbeats 400000 in
theorem from_any (a : Option Addr) (n cap : Nat) (w : World) :
    Calls Tryz.prog 41 #[.slice a n cap] w fun e w' => e = .returned (.pointer (some ⟨w.heap.size, 0, none⟩)) ∧ SrcAt w w' w.heap.size a n cap 0 := by
  go_enter Tryz.func41, Tryz.ntmps41
  go_wp2_with fail
  go_ret
  refine ⟨rfl, ⟨by simp, by simp, ⟨0, by simp, by omega, by omega⟩, fun i => by simp, Nat.le_refl _, by simp, (Below.refl _ _).alloc (Nat.le_refl _) _⟩⟩


def Pick1Post (W w : World) (m : Int) (g : Nat) (a : Option Addr) (n cap k : Nat) (e : Ending) (w' : World) : Prop :=
  ∃ r : Int, e = .returned (.int .i64 r) ∧ 0 ≤ r ∧ r < m ∧ SrcAt W w' g a n cap (k + 1) ∧ w.grownBy w' (some g)
set_option maxHeartbeats 1000000 in
theorem pick1_any {W w : World} {g n cap k : Nat} {a : Option Addr} {zs : List Int} (m : Int) (m0 : 2 ≤ m) (m1 : m ≤ 200) (hin : BytesIn W (.slice a n cap) zs) (hn : zs.length ≤ 1048576) (h : SrcAt W w g a n cap k) (hk : k ≤ 100) :
    Calls Tryz.prog 73 #[.pointer (some ⟨g, 0, none⟩), .int .i64 m] w (Pick1Post W w m g a n cap k) := by
  have IN := Lib.hid hin
  have H := Lib.hid h
  clear hin h
  have hm : (m == 0) = false := by simp; omega
  go_enter Tryz.func73, Tryz.ntmps73
  go_wp2_with fail
  refine (next_any IN.out hn H.out (by omega)).mono ?_
  rintro e w1 ⟨r, rfl, r0, r1, h1, g1⟩
  have H1 := Lib.hid h1
  have G1 := Lib.hid g1
  clear h1 H g1
  have e1 : 0 ≤ r % m := Int.emod_nonneg _ (by omega)
  have e2 : r % m < m := Int.emod_lt_of_pos _ (by omega)
  go_wp2_with fail
  go_ret
  exact ⟨_, rfl, by omega, by omega, H1.out, G1.out⟩

set_option maxHeartbeats 1000000 in
theorem one_any {W w : World} {g n cap k : Nat} {a : Option Addr} {zs : List Int} (m : Int) (m0 : 2 ≤ m) (m1 : m ≤ 200) (hin : BytesIn W (.slice a n cap) zs) (hn : zs.length ≤ 1048576) (h : SrcAt W w g a n cap k) (hk : k ≤ 100) :
    Calls Tryz.prog 71 #[.pointer (some ⟨g, 0, none⟩), .int .i64 m] w fun e w' => ∃ b : Bool, e = .returned (.bool b) ∧ SrcAt W w' g a n cap (k + 1) ∧ w.grownBy w' (some g) := by
  have P := Lib.hid (pick1_any m m0 m1 hin hn h hk)
  clear hin h
  go_enter Tryz.func71, Tryz.ntmps71
  go_wp2_with fail
  refine P.out.mono ?_
  rintro e w1 ⟨r, rfl, r0, r1, h1, g1⟩
  have H1 := Lib.hid h1
  have G1 := Lib.hid g1
  clear h1 g1 P
  go_wp2_with fail
  go_ret
  exact ⟨_, rfl, H1.out, G1.out⟩

set_option maxHeartbeats 1000000 in
theorem among_any {W w : World} {g n cap k b c : Nat} {a : Option Addr} {zs : List Int} (xs : List Int) (m0 : 2 ≤ xs.length) (m1 : xs.length ≤ 200) (hin : BytesIn W (.slice a n cap) zs) (hn : zs.length ≤ 1048576) (h : SrcAt W w g a n cap k) (hk : k ≤ 100)
    (hbg : b ≠ g) (hb : b < w.heap.size) (hx : ∀ j, (hj : j < xs.length) → w.cell? ⟨b, j, none⟩ = some (.int .i64 xs[j])) :
    Calls Tryz.prog 75 #[.pointer (some ⟨g, 0, none⟩), .slice (some ⟨b, 0, none⟩) xs.length c] w fun e w' => ∃ r : Int, e = .returned (.int .i64 r) ∧ r ∈ xs ∧ SrcAt W w' g a n cap (k + 1) ∧ w.grownBy w' (some g) := by
  have P := Lib.hid (pick1_any (xs.length : Int) (by omega) (by omega) hin hn h hk)
  have HX := Lib.hid hx
  clear hin h hx
  go_enter Tryz.func75, Tryz.ntmps75
  go_wp2_with fail
  refine P.out.mono ?_
  rintro e w1 ⟨r, rfl, r0, r1, h1, g1⟩
  obtain ⟨j, rfl⟩ : ∃ j : Nat, r = (j : Int) := ⟨r.toNat, by omega⟩
  have hj : j < xs.length := by omega
  have c0 : w1.cell? ⟨b, j, none⟩ = some (.int .i64 xs[j]) := ((gq_cell g1 hb hbg).1 j).trans (HX.out j hj)
  have MEM : Hid (xs[j] ∈ xs) := Lib.hid (List.getElem_mem hj)
  have H1 := Lib.hid h1
  have G1 := Lib.hid g1
  clear h1 g1 P HX
  generalize xs[j] = z at *
  go_wp2_with fail
  go_ret
  exact ⟨_, rfl, MEM.out, H1.out, G1.out⟩
theorem fin_SrcG : True := trivial
end

section
open Go.RowKit
set_option linter.unusedVariables false

theorem gq_alloc {row : Option Nat} (w : World) (o : Obj) : w.grownBy (w.alloc o) row := by
  have hb : Below w.heap.size w (w.alloc o) := (Below.refl _ _).alloc (Nat.le_refl _) _
  exact ⟨hb.os, hb.tape, hb.output, hb.size, fun k hk _ => hb.block k hk⟩
theorem dg_set {w w' : World} {g : Nat} (h : w.grownBy w' (some g)) (b j : Nat) (v : Value) (hb : w.heap.size ≤ b) : w.grownBy (w'.setCell ⟨b, j, none⟩ v) (some g) := by
  have k := gq_set w' b j v
  exact ⟨k.os.trans h.os, k.tape.trans h.tape, k.output.trans h.output, Nat.le_trans h.size k.size, fun i hi hne => (k.block i (Nat.lt_of_lt_of_le hi h.size) (fun e => by injection e with e; omega)).trans (h.block i hi hne)⟩
theorem lit_at (w : World) (xs : List Int) (t : TypeId) (j : Nat) (hj : j < xs.length) : (w.alloc (.cells (xs.map (Value.int .i64)).toArray t)).cell? ⟨w.heap.size, j, none⟩ = some (.int .i64 xs[j]) := by
  rw [World.cell?_alloc_at _ _ _ _ rfl]
  simp [hj]
/-- A number between lo and hi, t bytes of the source at most. -/
def DPost (W w : World) (lo hi : Int) (g : Nat) (a : Option Addr) (n cap k t : Nat) (e : Ending) (w' : World) : Prop :=
  ∃ (v : Int) (k' : Nat), e = .returned (.int .i64 v) ∧ (lo ≤ v ∧ v ≤ hi) ∧ k' ≤ k + t ∧ SrcAt W w' g a n cap k' ∧ w.grownBy w' (some g)
set_option maxRecDepth 100000 in
set_option maxHeartbeats 4000000 in
theorem dr2_any {W w : World} {g n cap k : Nat} {a : Option Addr} {zs : List Int} (hin : BytesIn W (.slice a n cap) zs) (hn : zs.length ≤ 1048576) (h : SrcAt W w g a n cap k) (hk : k ≤ 90) :
    Calls Tryz.prog 106 #[.pointer (some ⟨g, 0, none⟩)] w (DPost W w 0 359999 g a n cap k 3) := by
  have IN := Lib.hid hin
  have H := Lib.hid h
  have G : Hid (w.grownBy w (some g)) := Lib.hid ⟨rfl, rfl, rfl, Nat.le_refl _, fun _ _ _ => rfl⟩
  clear hin h
  go_enter Tryz.func106, Tryz.ntmps106
  go_wp2_with fail
  refine (pick1_any 4 (by omega) (by omega) IN.out hn H.out (by omega)).mono ?_
  rintro e w1 ⟨r, rfl, r0, r1, hw1, gw1⟩
  have Hw1 := Lib.hid hw1
  have Gw1 := Lib.hid (gq_trans G.out gw1)
  clear hw1 gw1 H G
  by_cases c0 : r = 0
  · subst c0
    go_wp2_with fail
    refine (pick1_any 24 (by omega) (by omega) IN.out hn Hw1.out (by omega)).mono ?_
    rintro e w2 ⟨q, rfl, q0, q1, hw2, gw2⟩
    have Hw2 := Lib.hid hw2
    have Gw2 := Lib.hid (gq_trans Gw1.out gw2)
    clear hw2 gw2 Hw1 Gw1
    go_wp2_with fail
    go_ret
    exact ⟨_, _, rfl, ⟨by omega, by omega⟩, by omega, Hw2.out, Gw2.out⟩
  by_cases c1 : r = 1
  · subst c1
    go_wp2_with fail
    refine (pick_any 360 (by omega) (by omega) IN.out hn Hw1.out (by omega)).mono ?_
    rintro e w2 ⟨q, rfl, q0, q1, hw2, gw2⟩
    have Hw2 := Lib.hid hw2
    have Gw2 := Lib.hid (gq_trans Gw1.out gw2)
    clear hw2 gw2 Hw1 Gw1
    go_wp2_with fail
    go_ret
    exact ⟨_, _, rfl, ⟨by omega, by omega⟩, by omega, Hw2.out, Gw2.out⟩
  go_wp2_with fail
  refine (pick_any 360000 (by omega) (by omega) IN.out hn Hw1.out (by omega)).mono ?_
  rintro e w2 ⟨q, rfl, q0, q1, hw2, gw2⟩
  have Hw2 := Lib.hid hw2
  have Gw2 := Lib.hid (gq_trans Gw1.out gw2)
  clear hw2 gw2 Hw1 Gw1
  go_wp2_with fail
  go_ret
  exact ⟨_, _, rfl, ⟨by omega, by omega⟩, by omega, Hw2.out, Gw2.out⟩
set_option maxRecDepth 100000 in
set_option maxHeartbeats 4000000 in
theorem turn6_any {W w : World} {g n cap k : Nat} {a : Option Addr} {zs : List Int} (hin : BytesIn W (.slice a n cap) zs) (hn : zs.length ≤ 1048576) (h : SrcAt W w g a n cap k) (hk : k ≤ 80) :
    Calls Tryz.prog 77 #[.pointer (some ⟨g, 0, none⟩)] w (DPost W w (-1) 360000 g a n cap k 4) := by
  have IN := Lib.hid hin
  have H := Lib.hid h
  have G : Hid (w.grownBy w (some g)) := Lib.hid ⟨rfl, rfl, rfl, Nat.le_refl _, fun _ _ _ => rfl⟩
  clear hin h
  go_enter Tryz.func77, Tryz.ntmps77
  go_wp2_with fail
  refine (one_any 14 (by omega) (by omega) IN.out hn H.out (by omega)).mono ?_
  rintro e w1 ⟨b, rfl, hw1, gw1⟩
  have Hw1 := Lib.hid hw1
  have Gw1 := Lib.hid (gq_trans G.out gw1)
  clear hw1 gw1 H G
  cases b with
  | true =>
    go_wp2_with fail
    have hbw2a : Below w1.heap.size w1 (w1.alloc (Obj.cells #[.int .i64 (-1), .int .i64 0, .int .i64 359999, .int .i64 360000] 2)) := (Below.refl _ _).alloc (Nat.le_refl _) _
    have HXw2 : Hid (∀ j, (hj : j < [(-1 : Int), 0, 359999, 360000].length) → (w1.alloc (Obj.cells #[.int .i64 (-1), .int .i64 0, .int .i64 359999, .int .i64 360000] 2)).cell? ⟨w1.heap.size, j, none⟩ = some (.int .i64 [(-1 : Int), 0, 359999, 360000][j])) := Lib.hid (lit_at w1 [(-1 : Int), 0, 359999, 360000] 2)
    have hLw2 : w1.heap.size < (w1.alloc (Obj.cells #[.int .i64 (-1), .int .i64 0, .int .i64 359999, .int .i64 360000] 2)).heap.size := by simp
    have hLgw2 : w1.heap.size ≠ g := by have := Hw1.out.lt; omega
    have Hw2a := Lib.hid (Hw1.out.keep hbw2a)
    have Gw2a : Hid (w.grownBy (w1.alloc (Obj.cells #[.int .i64 (-1), .int .i64 0, .int .i64 359999, .int .i64 360000] 2)) (some g)) := Lib.hid (gq_trans Gw1.out (gq_alloc w1 _))
    clear hbw2a Hw1 Gw1
    generalize w1.alloc (Obj.cells #[.int .i64 (-1), .int .i64 0, .int .i64 359999, .int .i64 360000] 2) = w1a at *
    refine (among_any [(-1 : Int), 0, 359999, 360000] (by simp) (by simp) IN.out hn Hw2a.out (by omega) hLgw2 hLw2 HXw2.out).mono ?_
    rintro e w2 ⟨rw2, rfl, hmw2, hw2, gw2⟩
    have Hw2 := Lib.hid hw2
    have Gw2 := Lib.hid (gq_trans Gw2a.out gw2)
    simp only [List.mem_cons, List.not_mem_nil, or_false] at hmw2
    clear hw2 HXw2 Hw2a Gw2a
    go_wp2_with fail
    go_ret
    exact ⟨_, _, rfl, by omega, by omega, Hw2.out, Gw2.out⟩
  | false =>
    go_wp2_with fail
    refine (dr2_any IN.out hn Hw1.out (by omega)).mono ?_
    rintro e w2 ⟨x, k2, rfl, hx, hk2, hw2, gw2⟩
    have Hw2 := Lib.hid hw2
    have Gw2 := Lib.hid (gq_trans Gw1.out gw2)
    clear hw2 gw2 Hw1 Gw1
    go_wp2_with fail
    go_ret
    exact ⟨_, _, rfl, by omega, by omega, Hw2.out, Gw2.out⟩
set_option maxRecDepth 100000 in
set_option maxHeartbeats 4000000 in
theorem spot10_any {W w : World} {g n cap k : Nat} {a : Option Addr} {zs : List Int} (hin : BytesIn W (.slice a n cap) zs) (hn : zs.length ≤ 1048576) (h : SrcAt W w g a n cap k) (hk : k ≤ 70) :
    Calls Tryz.prog 43 #[.pointer (some ⟨g, 0, none⟩)] w fun e w' => ∃ (x y : Int) (k' : Nat), e = .returned (.tuple #[.int .i64 x, .int .i64 y]) ∧ (-1 ≤ x ∧ x ≤ 360000) ∧ (-1 ≤ y ∧ y ≤ 90001) ∧ k' ≤ k + 7 ∧ SrcAt W w' g a n cap k' ∧ w.grownBy w' (some g) := by
  have IN := Lib.hid hin
  have H := Lib.hid h
  have G : Hid (w.grownBy w (some g)) := Lib.hid ⟨rfl, rfl, rfl, Nat.le_refl _, fun _ _ _ => rfl⟩
  clear hin h
  go_enter Tryz.func43, Tryz.ntmps43
  go_wp2_with fail
  refine (turn6_any IN.out hn H.out (by omega)).mono ?_
  rintro e w1 ⟨x, k1, rfl, hx, hk1, hw1, gw1⟩
  have Hw1 := Lib.hid hw1
  have Gw1 := Lib.hid (gq_trans G.out gw1)
  clear hw1 gw1 H G
  go_wp2_with fail
  refine (one_any 12 (by omega) (by omega) IN.out hn Hw1.out (by omega)).mono ?_
  rintro e w2 ⟨b, rfl, hw2, gw2⟩
  have Hw2 := Lib.hid hw2
  have Gw2 := Lib.hid (gq_trans Gw1.out gw2)
  clear hw2 gw2 Hw1 Gw1
  cases b with
  | true =>
    go_wp2_with fail
    have hbw3a : Below w2.heap.size w2 (w2.alloc (Obj.cells #[.int .i64 (-1), .int .i64 0, .int .i64 90000, .int .i64 90001] 2)) := (Below.refl _ _).alloc (Nat.le_refl _) _
    have HXw3 : Hid (∀ j, (hj : j < [(-1 : Int), 0, 90000, 90001].length) → (w2.alloc (Obj.cells #[.int .i64 (-1), .int .i64 0, .int .i64 90000, .int .i64 90001] 2)).cell? ⟨w2.heap.size, j, none⟩ = some (.int .i64 [(-1 : Int), 0, 90000, 90001][j])) := Lib.hid (lit_at w2 [(-1 : Int), 0, 90000, 90001] 2)
    have hLw3 : w2.heap.size < (w2.alloc (Obj.cells #[.int .i64 (-1), .int .i64 0, .int .i64 90000, .int .i64 90001] 2)).heap.size := by simp
    have hLgw3 : w2.heap.size ≠ g := by have := Hw2.out.lt; omega
    have Hw3a := Lib.hid (Hw2.out.keep hbw3a)
    have Gw3a : Hid (w.grownBy (w2.alloc (Obj.cells #[.int .i64 (-1), .int .i64 0, .int .i64 90000, .int .i64 90001] 2)) (some g)) := Lib.hid (gq_trans Gw2.out (gq_alloc w2 _))
    clear hbw3a Hw2 Gw2
    generalize w2.alloc (Obj.cells #[.int .i64 (-1), .int .i64 0, .int .i64 90000, .int .i64 90001] 2) = w2a at *
    refine (among_any [(-1 : Int), 0, 90000, 90001] (by simp) (by simp) IN.out hn Hw3a.out (by omega) hLgw3 hLw3 HXw3.out).mono ?_
    rintro e w3 ⟨rw3, rfl, hmw3, hw3, gw3⟩
    have Hw3 := Lib.hid hw3
    have Gw3 := Lib.hid (gq_trans Gw3a.out gw3)
    simp only [List.mem_cons, List.not_mem_nil, or_false] at hmw3
    clear hw3 HXw3 Hw3a Gw3a
    go_wp2_with fail
    go_ret2
    exact ⟨_, _, _, rfl, hx, by omega, by omega, Hw3.out, Gw3.out⟩
  | false =>
    go_wp2_with fail
    refine (pick_any 90001 (by omega) (by omega) IN.out hn Hw2.out (by omega)).mono ?_
    rintro e w3 ⟨q, rfl, q0, q1, hw3, gw3⟩
    have Hw3 := Lib.hid hw3
    have Gw3 := Lib.hid (gq_trans Gw2.out gw3)
    clear hw3 gw3 Hw2 Gw2
    go_wp2_with fail
    go_ret2
    exact ⟨_, _, _, rfl, hx, by omega, by omega, Hw3.out, Gw3.out⟩
theorem fin_DrwA : True := trivial
end

section
open Go.RowKit
set_option linter.unusedVariables false

/-- Five cells of a projector. -/
structure P5 (w : World) (b : Nat) (s : ByteArray) (x0 x1 x2 x3 : Int) : Prop where
  c0 : w.cell? ⟨b, 0, none⟩ = some (.string s)
  c1 : w.cell? ⟨b, 1, none⟩ = some (.int .i64 x0)
  c2 : w.cell? ⟨b, 2, none⟩ = some (.int .i64 x1)
  c3 : w.cell? ⟨b, 3, none⟩ = some (.int .i64 x2)
  c4 : w.cell? ⟨b, 4, none⟩ = some (.int .i64 x3)
  fr : ∀ i, w.frozen? ⟨b, i, none⟩ = false
theorem P5.lt {w : World} {b : Nat} {s : ByteArray} {x0 x1 x2 x3 : Int} (h : P5 w b s x0 x1 x2 x3) : b < w.heap.size := World.block_lt_of_cell? w ⟨b, 0, none⟩ h.c0
theorem P5.new (w : World) (s : ByteArray) (x0 x1 x2 x3 : Int) (t : TypeId) : P5 (w.alloc (.cells #[.string s, .int .i64 x0, .int .i64 x1, .int .i64 x2, .int .i64 x3] t)) w.heap.size s x0 x1 x2 x3 :=
  ⟨by simp, by simp, by simp, by simp, by simp, fun i => by simp⟩
theorem P5.gb {w w' : World} {b g : Nat} {s : ByteArray} {x0 x1 x2 x3 : Int} (h : P5 w b s x0 x1 x2 x3) (hg : w.grownBy w' (some g)) (hne : b ≠ g) : P5 w' b s x0 x1 x2 x3 := by
  obtain ⟨hc, hf⟩ := gq_cell hg h.lt hne
  exact ⟨(hc 0).trans h.c0, (hc 1).trans h.c1, (hc 2).trans h.c2, (hc 3).trans h.c3, (hc 4).trans h.c4, fun i => (hf i).trans (h.fr i)⟩
theorem P5.keep {w w' : World} {b : Nat} {s : ByteArray} {x0 x1 x2 x3 : Int} (h : P5 w b s x0 x1 x2 x3) (hb : Below w.heap.size w w') : P5 w' b s x0 x1 x2 x3 := by
  have hl := h.lt
  exact ⟨(hb.cell (p := ⟨b, 0, none⟩) hl).trans h.c0, (hb.cell (p := ⟨b, 1, none⟩) hl).trans h.c1, (hb.cell (p := ⟨b, 2, none⟩) hl).trans h.c2, (hb.cell (p := ⟨b, 3, none⟩) hl).trans h.c3, (hb.cell (p := ⟨b, 4, none⟩) hl).trans h.c4, fun i => (hb.frozen (p := ⟨b, i, none⟩) hl).trans (h.fr i)⟩
theorem P5.set {w : World} {b : Nat} {s : ByteArray} {x0 x1 x2 x3 : Int} (h : P5 w b s x0 x1 x2 x3) (c j : Nat) (v : Value) (hne : b ≠ c) : P5 (w.setCell ⟨c, j, none⟩ v) b s x0 x1 x2 x3 :=
  h.gb (gq_set w c j v) hne
theorem P5.put0 {w : World} {b : Nat} {s : ByteArray} {x0 x1 x2 x3 : Int} (h : P5 w b s x0 x1 x2 x3) (v : ByteArray) : P5 (w.setCell ⟨b, 0, none⟩ (.string v)) b v x0 x1 x2 x3 :=
  ⟨World.cell?_setCell_same _ _ _ h.c0, by rw [World.cell?_setCell_other _ _ _ _ (by simp)]; exact h.c1, by rw [World.cell?_setCell_other _ _ _ _ (by simp)]; exact h.c2, by rw [World.cell?_setCell_other _ _ _ _ (by simp)]; exact h.c3, by rw [World.cell?_setCell_other _ _ _ _ (by simp)]; exact h.c4, fun i => by rw [World.frozen?_setCell]; exact h.fr i⟩
theorem P5.put1 {w : World} {b : Nat} {s : ByteArray} {x0 x1 x2 x3 : Int} (h : P5 w b s x0 x1 x2 x3) (v : Int) : P5 (w.setCell ⟨b, 1, none⟩ (.int .i64 v)) b s v x1 x2 x3 :=
  ⟨by rw [World.cell?_setCell_other _ _ _ _ (by simp)]; exact h.c0, World.cell?_setCell_same _ _ _ h.c1, by rw [World.cell?_setCell_other _ _ _ _ (by simp)]; exact h.c2, by rw [World.cell?_setCell_other _ _ _ _ (by simp)]; exact h.c3, by rw [World.cell?_setCell_other _ _ _ _ (by simp)]; exact h.c4, fun i => by rw [World.frozen?_setCell]; exact h.fr i⟩
theorem P5.put2 {w : World} {b : Nat} {s : ByteArray} {x0 x1 x2 x3 : Int} (h : P5 w b s x0 x1 x2 x3) (v : Int) : P5 (w.setCell ⟨b, 2, none⟩ (.int .i64 v)) b s x0 v x2 x3 :=
  ⟨by rw [World.cell?_setCell_other _ _ _ _ (by simp)]; exact h.c0, by rw [World.cell?_setCell_other _ _ _ _ (by simp)]; exact h.c1, World.cell?_setCell_same _ _ _ h.c2, by rw [World.cell?_setCell_other _ _ _ _ (by simp)]; exact h.c3, by rw [World.cell?_setCell_other _ _ _ _ (by simp)]; exact h.c4, fun i => by rw [World.frozen?_setCell]; exact h.fr i⟩
theorem P5.put3 {w : World} {b : Nat} {s : ByteArray} {x0 x1 x2 x3 : Int} (h : P5 w b s x0 x1 x2 x3) (v : Int) : P5 (w.setCell ⟨b, 3, none⟩ (.int .i64 v)) b s x0 x1 v x3 :=
  ⟨by rw [World.cell?_setCell_other _ _ _ _ (by simp)]; exact h.c0, by rw [World.cell?_setCell_other _ _ _ _ (by simp)]; exact h.c1, by rw [World.cell?_setCell_other _ _ _ _ (by simp)]; exact h.c2, World.cell?_setCell_same _ _ _ h.c3, by rw [World.cell?_setCell_other _ _ _ _ (by simp)]; exact h.c4, fun i => by rw [World.frozen?_setCell]; exact h.fr i⟩
theorem P5.put4 {w : World} {b : Nat} {s : ByteArray} {x0 x1 x2 x3 : Int} (h : P5 w b s x0 x1 x2 x3) (v : Int) : P5 (w.setCell ⟨b, 4, none⟩ (.int .i64 v)) b s x0 x1 x2 v :=
  ⟨by rw [World.cell?_setCell_other _ _ _ _ (by simp)]; exact h.c0, by rw [World.cell?_setCell_other _ _ _ _ (by simp)]; exact h.c1, by rw [World.cell?_setCell_other _ _ _ _ (by simp)]; exact h.c2, by rw [World.cell?_setCell_other _ _ _ _ (by simp)]; exact h.c3, World.cell?_setCell_same _ _ _ h.c4, fun i => by rw [World.frozen?_setCell]; exact h.fr i⟩

set_option maxRecDepth 100000 in
set_option maxHeartbeats 4000000 in
theorem one10_any (name : ByteArray) {W w : World} {g n cap k : Nat} {a : Option Addr} {zs : List Int} (hin : BytesIn W (.slice a n cap) zs) (hn : zs.length ≤ 1048576) (h : SrcAt W w g a n cap k) (hk : k ≤ 80) :
    Calls Tryz.prog 72 #[.pointer (some ⟨g, 0, none⟩), .string name] w fun e w' => ∃ (x0 x1 x2 x3 : Int) (k' : Nat), e = .returned (.agg #[.string name, .int .i64 x0, .int .i64 x1, .int .i64 x2, .int .i64 x3]) ∧ (0 ≤ x0 ∧ x0 ≤ 359999) ∧ (0 ≤ x1 ∧ x1 ≤ 90000) ∧ (5000 ≤ x2 ∧ x2 ≤ 120000) ∧ (1 ≤ x3 ∧ x3 ≤ 1000) ∧ k' ≤ k + 8 ∧ SrcAt W w' g a n cap k' ∧ w.grownBy w' (some g) := by
  have IN := Lib.hid hin
  have H := Lib.hid h
  have G : Hid (w.grownBy w (some g)) := Lib.hid ⟨rfl, rfl, rfl, Nat.le_refl _, fun _ _ _ => rfl⟩
  clear hin h
  go_enter Tryz.func72, Tryz.ntmps72
  go_wp2_with fail
  have hb0 : Below w.heap.size w (w.alloc (Obj.cells #[.string ⟨#[]⟩, .int .i64 0, .int .i64 0, .int .i64 0, .int .i64 0] 37)) := (Below.refl _ _).alloc (Nat.le_refl _) _
  have R0 := Lib.hid (P5.new w ⟨#[]⟩ 0 0 0 0 37)
  have H0 := Lib.hid (H.out.keep hb0)
  have G0 : Hid (w.grownBy (w.alloc (Obj.cells #[.string ⟨#[]⟩, .int .i64 0, .int .i64 0, .int .i64 0, .int .i64 0] 37)) (some g)) := Lib.hid (gq_alloc w _)
  have hRg : w.heap.size ≠ g := by have := H.out.lt; omega
  obtain ⟨R, hR⟩ : ∃ R, R = w.heap.size := ⟨_, rfl⟩
  have hRw : w.heap.size ≤ R := by omega
  have hRW : W.heap.size ≤ R := by have := H.out.bel.size; omega
  rw [← hR] at R0 hRg ⊢
  clear hb0 hR H G
  generalize w.alloc (Obj.cells #[.string ⟨#[]⟩, .int .i64 0, .int .i64 0, .int .i64 0, .int .i64 0] 37) = wa at *
  refine (dr2_any IN.out hn H0.out (by omega)).mono ?_
  rintro e w1 ⟨x0, k1, rfl, hx0, hk1, h1, g1⟩
  have H1 := Lib.hid h1
  have G1 := Lib.hid (gq_trans G0.out g1)
  have R1 := Lib.hid (R0.out.gb g1 hRg)
  clear h1 g1 H0 G0 R0
  go_wp2_with fail
  have hb1 : Below w1.heap.size w1 (w1.alloc (Obj.cells #[.string name, .int .i64 x0, .int .i64 0, .int .i64 0, .int .i64 0] 37)) := (Below.refl _ _).alloc (Nat.le_refl _) _
  have M1a := Lib.hid (P5.new w1 name x0 0 0 0 37)
  have H1a := Lib.hid (H1.out.keep hb1)
  have G1a : Hid (w.grownBy (w1.alloc (Obj.cells #[.string name, .int .i64 x0, .int .i64 0, .int .i64 0, .int .i64 0] 37)) (some g)) := Lib.hid (gq_trans G1.out (gq_alloc w1 _))
  have R1a := Lib.hid (R1.out.keep hb1)
  have hMg : w1.heap.size ≠ g := by have := H1.out.lt; omega
  have hMR : w1.heap.size ≠ R := by have := R1.out.lt; omega
  obtain ⟨M, hM⟩ : ∃ M, M = w1.heap.size := ⟨_, rfl⟩
  have hMw : w.heap.size ≤ M := by have := G1.out.size; omega
  have hMW : W.heap.size ≤ M := by have := H1.out.bel.size; omega
  rw [← hM] at M1a hMg hMR ⊢
  clear hb1 hM H1 G1 R1
  generalize w1.alloc (Obj.cells #[.string name, .int .i64 x0, .int .i64 0, .int .i64 0, .int .i64 0] 37) = wb at *
  refine (pick_any 90001 (by omega) (by omega) IN.out hn H1a.out (by omega)).mono ?_
  rintro e w2 ⟨x1, rfl, b0, b1, h2, g2⟩
  have H2 := Lib.hid h2
  have G2 := Lib.hid (gq_trans G1a.out g2)
  have R2 := Lib.hid (R1a.out.gb g2 hRg)
  have M2 := Lib.hid (M1a.out.gb g2 hMg)
  have hx1 : 0 ≤ x1 ∧ x1 ≤ 90000 := by omega
  have q2 := M2.out.c2
  have e2 := M2.out.fr 2
  clear h2 g2 H1a G1a R1a M1a b0 b1
  go_wp2_with fail
  have H3 := Lib.hid (H2.out.other M 2 (.int .i64 x1) (fun e => hMg e.symm) hMW)
  have G3 := Lib.hid (dg_set G2.out M 2 (.int .i64 x1) hMw)
  have R3 := Lib.hid (R2.out.set M 2 (.int .i64 x1) (fun e => hMR e.symm))
  have M3 := Lib.hid (M2.out.put2 x1)
  have hs3 : (w2.setCell ⟨M, 2, none⟩ (.int .i64 x1)).heap.size = w2.heap.size := World.size_setCell _ _ _
  rw [← hs3]
  clear H2 G2 R2 M2 q2 e2
  generalize w2.setCell ⟨M, 2, none⟩ (.int .i64 x1) = w3 at *
  have hbw4a : Below w3.heap.size w3 (w3.alloc (Obj.cells #[.int .i64 30000, .int .i64 60000, .int .i64 90000, .int .i64 120000, .int .i64 45000, .int .i64 5000] 2)) := (Below.refl _ _).alloc (Nat.le_refl _) _
  have HXw4 : Hid (∀ j, (hj : j < [(30000 : Int), 60000, 90000, 120000, 45000, 5000].length) → (w3.alloc (Obj.cells #[.int .i64 30000, .int .i64 60000, .int .i64 90000, .int .i64 120000, .int .i64 45000, .int .i64 5000] 2)).cell? ⟨w3.heap.size, j, none⟩ = some (.int .i64 [(30000 : Int), 60000, 90000, 120000, 45000, 5000][j])) := Lib.hid (lit_at w3 [(30000 : Int), 60000, 90000, 120000, 45000, 5000] 2)
  have hLw4 : w3.heap.size < (w3.alloc (Obj.cells #[.int .i64 30000, .int .i64 60000, .int .i64 90000, .int .i64 120000, .int .i64 45000, .int .i64 5000] 2)).heap.size := by simp
  have hLgw4 : w3.heap.size ≠ g := by have := H3.out.lt; omega
  have Hw4a := Lib.hid (H3.out.keep hbw4a)
  have Gw4a : Hid (w.grownBy (w3.alloc (Obj.cells #[.int .i64 30000, .int .i64 60000, .int .i64 90000, .int .i64 120000, .int .i64 45000, .int .i64 5000] 2)) (some g)) := Lib.hid (gq_trans G3.out (gq_alloc w3 _))
  have R3a := Lib.hid (R3.out.keep hbw4a)
  have M3a := Lib.hid (M3.out.keep hbw4a)
  clear hbw4a H3 G3 R3 M3
  generalize w3.alloc (Obj.cells #[.int .i64 30000, .int .i64 60000, .int .i64 90000, .int .i64 120000, .int .i64 45000, .int .i64 5000] 2) = w3a at *
  refine (among_any [(30000 : Int), 60000, 90000, 120000, 45000, 5000] (by simp) (by simp) IN.out hn Hw4a.out (by omega) hLgw4 hLw4 HXw4.out).mono ?_
  rintro e w4 ⟨rw4, rfl, hmw4, hw4, gw4⟩
  have Hw4 := Lib.hid hw4
  have Gw4 := Lib.hid (gq_trans Gw4a.out gw4)
  simp only [List.mem_cons, List.not_mem_nil, or_false] at hmw4
  clear hw4 HXw4 Hw4a Gw4a
  have R4 := Lib.hid (R3a.out.gb gw4 hRg)
  have M4 := Lib.hid (M3a.out.gb gw4 hMg)
  have hx2 : 5000 ≤ rw4 ∧ rw4 ≤ 120000 := by omega
  have q3 := M4.out.c3
  have e3 := M4.out.fr 3
  clear gw4 hmw4 R3a M3a
  go_wp2_with fail
  have H5 := Lib.hid (Hw4.out.other M 3 (.int .i64 rw4) (fun e => hMg e.symm) hMW)
  have G5 := Lib.hid (dg_set Gw4.out M 3 (.int .i64 rw4) hMw)
  have R5 := Lib.hid (R4.out.set M 3 (.int .i64 rw4) (fun e => hMR e.symm))
  have M5 := Lib.hid (M4.out.put3 rw4)
  clear Hw4 Gw4 R4 M4 q3 e3
  generalize w4.setCell ⟨M, 3, none⟩ (.int .i64 rw4) = w5 at *
  refine (pick_any 1000 (by omega) (by omega) IN.out hn H5.out (by omega)).mono ?_
  rintro e w6 ⟨x3, rfl, b0, b1, h6, g6⟩
  have H6 := Lib.hid h6
  have G6 := Lib.hid (gq_trans G5.out g6)
  have R6 := Lib.hid (R5.out.gb g6 hRg)
  have M6 := Lib.hid (M5.out.gb g6 hMg)
  have q4 := M6.out.c4
  have e4 := M6.out.fr 4
  have M7 := Lib.hid (M6.out.put4 (1 + x3))
  have R7 := Lib.hid (R6.out.set M 4 (.int .i64 (1 + x3)) (fun e => hMR e.symm))
  have H7 := Lib.hid (H6.out.other M 4 (.int .i64 (1 + x3)) (fun e => hMg e.symm) hMW)
  have G7 := Lib.hid (dg_set G6.out M 4 (.int .i64 (1 + x3)) hMw)
  have m0 := M7.out.c0
  have m1 := M7.out.c1
  have m2 := M7.out.c2
  have m3 := M7.out.c3
  have m4 := M7.out.c4
  have p0 := R7.out.c0
  have p1 := R7.out.c1
  have p2 := R7.out.c2
  have p3 := R7.out.c3
  have p4 := R7.out.c4
  have f0 := R7.out.fr 0
  have f1 := R7.out.fr 1
  have f2 := R7.out.fr 2
  have f3 := R7.out.fr 3
  have f4 := R7.out.fr 4
  have T9 := Lib.hid (((((R7.out.put0 name).put1 x0).put2 x1).put3 rw4).put4 (1 + x3))
  clear h6 g6 H5 G5 R5 M5 H6 G6 R6 M6 M7 R7
  go_wp2_with fail
  have z0 := T9.out.c0
  have z1 := T9.out.c1
  have z2 := T9.out.c2
  have z3 := T9.out.c3
  have z4 := T9.out.c4
  refine bodyPost_ret (v := .agg #[.string name, .int .i64 x0, .int .i64 x1, .int .i64 rw4, .int .i64 (1 + x3)]) (by simp [results, Tryz.results72, go_sem, z0, z1, z2, z3, z4]) rfl ?_
  exact ⟨x0, x1, rw4, 1 + x3, _, rfl, hx0, hx1, hx2, ⟨by omega, by omega⟩, (by omega : k1 + 2 + 1 + 2 ≤ k + 8), (((((H7.out.other R 0 _ (fun e => hRg e.symm) hRW).other R 1 _ (fun e => hRg e.symm) hRW).other R 2 _ (fun e => hRg e.symm) hRW).other R 3 _ (fun e => hRg e.symm) hRW).other R 4 _ (fun e => hRg e.symm) hRW), dg_set (dg_set (dg_set (dg_set (dg_set G7.out R 0 _ hRw) R 1 _ hRw) R 2 _ hRw) R 3 _ hRw) R 4 _ hRw⟩
theorem fin_DrwB : True := trivial
end

section
open Go.RowKit
set_option linter.unusedVariables false

set_option maxHeartbeats 1000000 in
theorem text_any {W w : World} {g n cap k b c : Nat} {a : Option Addr} {zs : List Int} (xs : List ByteArray) (m0 : 2 ≤ xs.length) (m1 : xs.length ≤ 200) (hin : BytesIn W (.slice a n cap) zs) (hn : zs.length ≤ 1048576) (h : SrcAt W w g a n cap k) (hk : k ≤ 100)
    (hbg : b ≠ g) (hb : b < w.heap.size) (hx : ∀ j, (hj : j < xs.length) → w.cell? ⟨b, j, none⟩ = some (.string xs[j])) :
    Calls Tryz.prog 108 #[.pointer (some ⟨g, 0, none⟩), .slice (some ⟨b, 0, none⟩) xs.length c] w fun e w' => ∃ r : ByteArray, e = .returned (.string r) ∧ r ∈ xs ∧ SrcAt W w' g a n cap (k + 1) ∧ w.grownBy w' (some g) := by
  have P := Lib.hid (pick1_any (xs.length : Int) (by omega) (by omega) hin hn h hk)
  have HX := Lib.hid hx
  clear hin h hx
  go_enter Tryz.func108, Tryz.ntmps108
  go_wp2_with fail
  refine P.out.mono ?_
  rintro e w1 ⟨r, rfl, r0, r1, h1, g1⟩
  obtain ⟨j, rfl⟩ : ∃ j : Nat, r = (j : Int) := ⟨r.toNat, by omega⟩
  have hj : j < xs.length := by omega
  have c0 : w1.cell? ⟨b, j, none⟩ = some (.string xs[j]) := ((gq_cell g1 hb hbg).1 j).trans (HX.out j hj)
  have MEM : Hid (xs[j] ∈ xs) := Lib.hid (List.getElem_mem hj)
  have H1 := Lib.hid h1
  have G1 := Lib.hid g1
  clear h1 g1 P HX
  generalize xs[j] = z at *
  go_wp2_with fail
  go_ret
  exact ⟨_, rfl, MEM.out, H1.out, G1.out⟩
def Small (s : ByteArray) (x0 x1 x2 x3 : Int) : Prop := s.size ≤ 8 ∧ (-1000000 ≤ x0 ∧ x0 ≤ 1000000) ∧ (-1000000 ≤ x1 ∧ x1 ≤ 1000000) ∧ (-1000000 ≤ x2 ∧ x2 ≤ 1000000) ∧ (-1000000 ≤ x3 ∧ x3 ≤ 1000000)
set_option maxRecDepth 100000 in
set_option maxHeartbeats 4000000 in
theorem bend10_any (name : ByteArray) (x0 x1 x2 x3 : Int) {W w : World} {g n cap k : Nat} {a : Option Addr} {zs : List Int} (hin : BytesIn W (.slice a n cap) zs) (hn : zs.length ≤ 1048576) (h : SrcAt W w g a n cap k) (hs : Small name x0 x1 x2 x3) (hk : k ≤ 90) :
    Calls Tryz.prog 74 #[.pointer (some ⟨g, 0, none⟩), .agg #[.string name, .int .i64 x0, .int .i64 x1, .int .i64 x2, .int .i64 x3]] w fun e w' => ∃ (s : ByteArray) (y0 y1 y2 y3 : Int) (k' : Nat), e = .returned (.agg #[.string s, .int .i64 y0, .int .i64 y1, .int .i64 y2, .int .i64 y3]) ∧ Small s y0 y1 y2 y3 ∧ k' ≤ k + 2 ∧ SrcAt W w' g a n cap k' ∧ w.grownBy w' (some g) := by
  have IN := Lib.hid hin
  have H := Lib.hid h
  have G : Hid (w.grownBy w (some g)) := Lib.hid ⟨rfl, rfl, rfl, Nat.le_refl _, fun _ _ _ => rfl⟩
  clear hin h
  go_enter Tryz.func74, Tryz.ntmps74
  go_wp2_with fail
  have hb0 : Below w.heap.size w (w.alloc (Obj.cells #[.string name, .int .i64 x0, .int .i64 x1, .int .i64 x2, .int .i64 x3] 37)) := (Below.refl _ _).alloc (Nat.le_refl _) _
  have hs0 : (w.alloc (Obj.cells #[.string name, .int .i64 x0, .int .i64 x1, .int .i64 x2, .int .i64 x3] 37)).heap.size = w.heap.size + 1 := by simp
  have hb1 : Below (w.heap.size + 1) (w.alloc (Obj.cells #[.string name, .int .i64 x0, .int .i64 x1, .int .i64 x2, .int .i64 x3] 37)) ((w.alloc (Obj.cells #[.string name, .int .i64 x0, .int .i64 x1, .int .i64 x2, .int .i64 x3] 37)).alloc (Obj.cells #[.string ⟨#[]⟩, .int .i64 0, .int .i64 0, .int .i64 0, .int .i64 0] 37)) := (Below.refl _ _).alloc (by simp) _
  have M0a := P5.new w name x0 x1 x2 x3 37
  have M0 := Lib.hid (M0a.keep (w' := (w.alloc (Obj.cells #[.string name, .int .i64 x0, .int .i64 x1, .int .i64 x2, .int .i64 x3] 37)).alloc (Obj.cells #[.string ⟨#[]⟩, .int .i64 0, .int .i64 0, .int .i64 0, .int .i64 0] 37)) (by rw [hs0]; exact hb1))
  have R0 : Hid (P5 ((w.alloc (Obj.cells #[.string name, .int .i64 x0, .int .i64 x1, .int .i64 x2, .int .i64 x3] 37)).alloc (Obj.cells #[.string ⟨#[]⟩, .int .i64 0, .int .i64 0, .int .i64 0, .int .i64 0] 37)) (w.heap.size + 1) ⟨#[]⟩ 0 0 0 0) := Lib.hid (by have h := P5.new (w.alloc (Obj.cells #[.string name, .int .i64 x0, .int .i64 x1, .int .i64 x2, .int .i64 x3] 37)) ⟨#[]⟩ 0 0 0 0 37; rw [hs0] at h; exact h)
  have H0 := Lib.hid ((H.out.keep hb0).keep (w' := (w.alloc (Obj.cells #[.string name, .int .i64 x0, .int .i64 x1, .int .i64 x2, .int .i64 x3] 37)).alloc (Obj.cells #[.string ⟨#[]⟩, .int .i64 0, .int .i64 0, .int .i64 0, .int .i64 0] 37)) (by rw [hs0]; exact hb1))
  have G0 : Hid (w.grownBy ((w.alloc (Obj.cells #[.string name, .int .i64 x0, .int .i64 x1, .int .i64 x2, .int .i64 x3] 37)).alloc (Obj.cells #[.string ⟨#[]⟩, .int .i64 0, .int .i64 0, .int .i64 0, .int .i64 0] 37)) (some g)) := Lib.hid (gq_trans (gq_alloc w _) (gq_alloc (w.alloc (Obj.cells #[.string name, .int .i64 x0, .int .i64 x1, .int .i64 x2, .int .i64 x3] 37)) _))
  have hMg : w.heap.size ≠ g := by have := H.out.lt; omega
  have hRg : w.heap.size + 1 ≠ g := by have := H.out.lt; omega
  obtain ⟨M, hM⟩ : ∃ M, M = w.heap.size := ⟨_, rfl⟩
  have hMw : w.heap.size ≤ M := by omega
  have hMW : W.heap.size ≤ M := by have := H.out.bel.size; omega
  rw [← hM] at M0 R0 hMg hRg ⊢
  obtain ⟨R, hR⟩ : ∃ R, R = M + 1 := ⟨_, rfl⟩
  have hRw : w.heap.size ≤ R := by omega
  have hRW : W.heap.size ≤ R := by omega
  have hMR : M ≠ R := by omega
  rw [← hR] at R0 hRg ⊢
  clear M0a hb0 hb1 hs0 hR hM H G
  generalize (w.alloc (Obj.cells #[.string name, .int .i64 x0, .int .i64 x1, .int .i64 x2, .int .i64 x3] 37)).alloc (Obj.cells #[.string ⟨#[]⟩, .int .i64 0, .int .i64 0, .int .i64 0, .int .i64 0] 37) = wb at *
  refine (pick1_any 22 (by omega) (by omega) IN.out hn H0.out (by omega)).mono ?_
  rintro e w1 ⟨r, rfl, r0, r1, h1, g1⟩
  have Hw1 := Lib.hid h1
  have Gw1 := Lib.hid (gq_trans G0.out g1)
  have R1 := Lib.hid (R0.out.gb g1 hRg)
  have M1 := Lib.hid (M0.out.gb g1 hMg)
  clear h1 g1 H0 G0 R0 M0
  by_cases c0 : r = 0
  · subst c0
    go_wp2_with fail
    have hbw2a : Below w1.heap.size w1 (w1.alloc (Obj.cells #[.int .i64 (-1), .int .i64 359999, .int .i64 360000] 2)) := (Below.refl _ _).alloc (Nat.le_refl _) _
    have HXw2 : Hid (∀ j, (hj : j < [(-1 : Int), 359999, 360000].length) → (w1.alloc (Obj.cells #[.int .i64 (-1), .int .i64 359999, .int .i64 360000] 2)).cell? ⟨w1.heap.size, j, none⟩ = some (.int .i64 [(-1 : Int), 359999, 360000][j])) := Lib.hid (lit_at w1 [(-1 : Int), 359999, 360000] 2)
    have hLw2 : w1.heap.size < (w1.alloc (Obj.cells #[.int .i64 (-1), .int .i64 359999, .int .i64 360000] 2)).heap.size := by simp
    have hLgw2 : w1.heap.size ≠ g := by have := Hw1.out.lt; omega
    have Hw2a := Lib.hid (Hw1.out.keep hbw2a)
    have Gw2a : Hid (w.grownBy (w1.alloc (Obj.cells #[.int .i64 (-1), .int .i64 359999, .int .i64 360000] 2)) (some g)) := Lib.hid (gq_trans Gw1.out (gq_alloc w1 _))
    have R1a := Lib.hid (R1.out.keep hbw2a)
    have M1a := Lib.hid (M1.out.keep hbw2a)
    clear hbw2a Hw1 Gw1 R1 M1
    generalize w1.alloc (Obj.cells #[.int .i64 (-1), .int .i64 359999, .int .i64 360000] 2) = w1a at *
    refine (among_any [(-1 : Int), 359999, 360000] (by simp) (by simp) IN.out hn Hw2a.out (by omega) hLgw2 hLw2 HXw2.out).mono ?_
    rintro e w2 ⟨rw2, rfl, hmw2, hw2, gw2⟩
    have Hw2 := Lib.hid hw2
    have Gw2 := Lib.hid (gq_trans Gw2a.out gw2)
    simp only [List.mem_cons, List.not_mem_nil, or_false] at hmw2
    clear hw2 HXw2 Hw2a Gw2a
    have R2 := Lib.hid (R1a.out.gb gw2 hRg)
    have M2 := Lib.hid (M1a.out.gb gw2 hMg)
    have hv : -1000000 ≤ rw2 ∧ rw2 ≤ 1000000 := by omega
    clear gw2 hmw2 R1a M1a
    have qq := M2.out.c1
    have ee := M2.out.fr 1
    have H3 := Lib.hid (Hw2.out.other M 1 (.int .i64 rw2) (fun e => hMg e.symm) hMW)
    have G3 := Lib.hid (dg_set Gw2.out M 1 (.int .i64 rw2) hMw)
    have R3 := Lib.hid (R2.out.set M 1 (.int .i64 rw2) (fun e => hMR e.symm))
    have M3 := Lib.hid (M2.out.put1 rw2)
    have m0 := M3.out.c0
    have p0 := R3.out.c0
    have f0 := R3.out.fr 0
    have m1 := M3.out.c1
    have p1 := R3.out.c1
    have f1 := R3.out.fr 1
    have m2 := M3.out.c2
    have p2 := R3.out.c2
    have f2 := R3.out.fr 2
    have m3 := M3.out.c3
    have p3 := R3.out.c3
    have f3 := R3.out.fr 3
    have m4 := M3.out.c4
    have p4 := R3.out.c4
    have f4 := R3.out.fr 4
    have T9 := Lib.hid (((((R3.out.put0 name).put1 rw2).put2 x1).put3 x2).put4 x3)
    clear Hw2 Gw2 R2 M2 R3 M3
    go_wp2_with fail
    have z0 := T9.out.c0
    have z1 := T9.out.c1
    have z2 := T9.out.c2
    have z3 := T9.out.c3
    have z4 := T9.out.c4
    refine bodyPost_ret (v := .agg #[.string name, .int .i64 rw2, .int .i64 x1, .int .i64 x2, .int .i64 x3]) (by simp [results, Tryz.results74, go_sem, z0, z1, z2, z3, z4]) rfl ?_
    exact ⟨_, _, _, _, _, _, rfl, ⟨hs.1, hv, hs.2.2.1, hs.2.2.2.1, hs.2.2.2.2⟩, (by omega : k + 1 + 1 ≤ k + 2), (((((H3.out.other R 0 _ (fun e => hRg e.symm) hRW).other R 1 _ (fun e => hRg e.symm) hRW).other R 2 _ (fun e => hRg e.symm) hRW).other R 3 _ (fun e => hRg e.symm) hRW).other R 4 _ (fun e => hRg e.symm) hRW), dg_set (dg_set (dg_set (dg_set (dg_set G3.out R 0 _ hRw) R 1 _ hRw) R 2 _ hRw) R 3 _ hRw) R 4 _ hRw⟩
  by_cases c1 : r = 1
  · subst c1
    go_wp2_with fail
    have hbw2a : Below w1.heap.size w1 (w1.alloc (Obj.cells #[.int .i64 (-90001), .int .i64 (-90000), .int .i64 90001] 2)) := (Below.refl _ _).alloc (Nat.le_refl _) _
    have HXw2 : Hid (∀ j, (hj : j < [(-90001 : Int), -90000, 90001].length) → (w1.alloc (Obj.cells #[.int .i64 (-90001), .int .i64 (-90000), .int .i64 90001] 2)).cell? ⟨w1.heap.size, j, none⟩ = some (.int .i64 [(-90001 : Int), -90000, 90001][j])) := Lib.hid (lit_at w1 [(-90001 : Int), -90000, 90001] 2)
    have hLw2 : w1.heap.size < (w1.alloc (Obj.cells #[.int .i64 (-90001), .int .i64 (-90000), .int .i64 90001] 2)).heap.size := by simp
    have hLgw2 : w1.heap.size ≠ g := by have := Hw1.out.lt; omega
    have Hw2a := Lib.hid (Hw1.out.keep hbw2a)
    have Gw2a : Hid (w.grownBy (w1.alloc (Obj.cells #[.int .i64 (-90001), .int .i64 (-90000), .int .i64 90001] 2)) (some g)) := Lib.hid (gq_trans Gw1.out (gq_alloc w1 _))
    have R1a := Lib.hid (R1.out.keep hbw2a)
    have M1a := Lib.hid (M1.out.keep hbw2a)
    clear hbw2a Hw1 Gw1 R1 M1
    generalize w1.alloc (Obj.cells #[.int .i64 (-90001), .int .i64 (-90000), .int .i64 90001] 2) = w1a at *
    refine (among_any [(-90001 : Int), -90000, 90001] (by simp) (by simp) IN.out hn Hw2a.out (by omega) hLgw2 hLw2 HXw2.out).mono ?_
    rintro e w2 ⟨rw2, rfl, hmw2, hw2, gw2⟩
    have Hw2 := Lib.hid hw2
    have Gw2 := Lib.hid (gq_trans Gw2a.out gw2)
    simp only [List.mem_cons, List.not_mem_nil, or_false] at hmw2
    clear hw2 HXw2 Hw2a Gw2a
    have R2 := Lib.hid (R1a.out.gb gw2 hRg)
    have M2 := Lib.hid (M1a.out.gb gw2 hMg)
    have hv : -1000000 ≤ rw2 ∧ rw2 ≤ 1000000 := by omega
    clear gw2 hmw2 R1a M1a
    have qq := M2.out.c2
    have ee := M2.out.fr 2
    have H3 := Lib.hid (Hw2.out.other M 2 (.int .i64 rw2) (fun e => hMg e.symm) hMW)
    have G3 := Lib.hid (dg_set Gw2.out M 2 (.int .i64 rw2) hMw)
    have R3 := Lib.hid (R2.out.set M 2 (.int .i64 rw2) (fun e => hMR e.symm))
    have M3 := Lib.hid (M2.out.put2 rw2)
    have m0 := M3.out.c0
    have p0 := R3.out.c0
    have f0 := R3.out.fr 0
    have m1 := M3.out.c1
    have p1 := R3.out.c1
    have f1 := R3.out.fr 1
    have m2 := M3.out.c2
    have p2 := R3.out.c2
    have f2 := R3.out.fr 2
    have m3 := M3.out.c3
    have p3 := R3.out.c3
    have f3 := R3.out.fr 3
    have m4 := M3.out.c4
    have p4 := R3.out.c4
    have f4 := R3.out.fr 4
    have T9 := Lib.hid (((((R3.out.put0 name).put1 x0).put2 rw2).put3 x2).put4 x3)
    clear Hw2 Gw2 R2 M2 R3 M3
    go_wp2_with fail
    have z0 := T9.out.c0
    have z1 := T9.out.c1
    have z2 := T9.out.c2
    have z3 := T9.out.c3
    have z4 := T9.out.c4
    refine bodyPost_ret (v := .agg #[.string name, .int .i64 x0, .int .i64 rw2, .int .i64 x2, .int .i64 x3]) (by simp [results, Tryz.results74, go_sem, z0, z1, z2, z3, z4]) rfl ?_
    exact ⟨_, _, _, _, _, _, rfl, ⟨hs.1, hs.2.1, hv, hs.2.2.2.1, hs.2.2.2.2⟩, (by omega : k + 1 + 1 ≤ k + 2), (((((H3.out.other R 0 _ (fun e => hRg e.symm) hRW).other R 1 _ (fun e => hRg e.symm) hRW).other R 2 _ (fun e => hRg e.symm) hRW).other R 3 _ (fun e => hRg e.symm) hRW).other R 4 _ (fun e => hRg e.symm) hRW), dg_set (dg_set (dg_set (dg_set (dg_set G3.out R 0 _ hRw) R 1 _ hRw) R 2 _ hRw) R 3 _ hRw) R 4 _ hRw⟩
  by_cases c2 : r = 2
  · subst c2
    go_wp2_with fail
    have hbw2a : Below w1.heap.size w1 (w1.alloc (Obj.cells #[.int .i64 4999, .int .i64 120001] 2)) := (Below.refl _ _).alloc (Nat.le_refl _) _
    have HXw2 : Hid (∀ j, (hj : j < [(4999 : Int), 120001].length) → (w1.alloc (Obj.cells #[.int .i64 4999, .int .i64 120001] 2)).cell? ⟨w1.heap.size, j, none⟩ = some (.int .i64 [(4999 : Int), 120001][j])) := Lib.hid (lit_at w1 [(4999 : Int), 120001] 2)
    have hLw2 : w1.heap.size < (w1.alloc (Obj.cells #[.int .i64 4999, .int .i64 120001] 2)).heap.size := by simp
    have hLgw2 : w1.heap.size ≠ g := by have := Hw1.out.lt; omega
    have Hw2a := Lib.hid (Hw1.out.keep hbw2a)
    have Gw2a : Hid (w.grownBy (w1.alloc (Obj.cells #[.int .i64 4999, .int .i64 120001] 2)) (some g)) := Lib.hid (gq_trans Gw1.out (gq_alloc w1 _))
    have R1a := Lib.hid (R1.out.keep hbw2a)
    have M1a := Lib.hid (M1.out.keep hbw2a)
    clear hbw2a Hw1 Gw1 R1 M1
    generalize w1.alloc (Obj.cells #[.int .i64 4999, .int .i64 120001] 2) = w1a at *
    refine (among_any [(4999 : Int), 120001] (by simp) (by simp) IN.out hn Hw2a.out (by omega) hLgw2 hLw2 HXw2.out).mono ?_
    rintro e w2 ⟨rw2, rfl, hmw2, hw2, gw2⟩
    have Hw2 := Lib.hid hw2
    have Gw2 := Lib.hid (gq_trans Gw2a.out gw2)
    simp only [List.mem_cons, List.not_mem_nil, or_false] at hmw2
    clear hw2 HXw2 Hw2a Gw2a
    have R2 := Lib.hid (R1a.out.gb gw2 hRg)
    have M2 := Lib.hid (M1a.out.gb gw2 hMg)
    have hv : -1000000 ≤ rw2 ∧ rw2 ≤ 1000000 := by omega
    clear gw2 hmw2 R1a M1a
    have qq := M2.out.c3
    have ee := M2.out.fr 3
    have H3 := Lib.hid (Hw2.out.other M 3 (.int .i64 rw2) (fun e => hMg e.symm) hMW)
    have G3 := Lib.hid (dg_set Gw2.out M 3 (.int .i64 rw2) hMw)
    have R3 := Lib.hid (R2.out.set M 3 (.int .i64 rw2) (fun e => hMR e.symm))
    have M3 := Lib.hid (M2.out.put3 rw2)
    have m0 := M3.out.c0
    have p0 := R3.out.c0
    have f0 := R3.out.fr 0
    have m1 := M3.out.c1
    have p1 := R3.out.c1
    have f1 := R3.out.fr 1
    have m2 := M3.out.c2
    have p2 := R3.out.c2
    have f2 := R3.out.fr 2
    have m3 := M3.out.c3
    have p3 := R3.out.c3
    have f3 := R3.out.fr 3
    have m4 := M3.out.c4
    have p4 := R3.out.c4
    have f4 := R3.out.fr 4
    have T9 := Lib.hid (((((R3.out.put0 name).put1 x0).put2 x1).put3 rw2).put4 x3)
    clear Hw2 Gw2 R2 M2 R3 M3
    go_wp2_with fail
    have z0 := T9.out.c0
    have z1 := T9.out.c1
    have z2 := T9.out.c2
    have z3 := T9.out.c3
    have z4 := T9.out.c4
    refine bodyPost_ret (v := .agg #[.string name, .int .i64 x0, .int .i64 x1, .int .i64 rw2, .int .i64 x3]) (by simp [results, Tryz.results74, go_sem, z0, z1, z2, z3, z4]) rfl ?_
    exact ⟨_, _, _, _, _, _, rfl, ⟨hs.1, hs.2.1, hs.2.2.1, hv, hs.2.2.2.2⟩, (by omega : k + 1 + 1 ≤ k + 2), (((((H3.out.other R 0 _ (fun e => hRg e.symm) hRW).other R 1 _ (fun e => hRg e.symm) hRW).other R 2 _ (fun e => hRg e.symm) hRW).other R 3 _ (fun e => hRg e.symm) hRW).other R 4 _ (fun e => hRg e.symm) hRW), dg_set (dg_set (dg_set (dg_set (dg_set G3.out R 0 _ hRw) R 1 _ hRw) R 2 _ hRw) R 3 _ hRw) R 4 _ hRw⟩
  by_cases c3 : r = 3
  · subst c3
    go_wp2_with fail
    have hbw2a : Below w1.heap.size w1 (w1.alloc (Obj.cells #[.int .i64 0, .int .i64 1001] 2)) := (Below.refl _ _).alloc (Nat.le_refl _) _
    have HXw2 : Hid (∀ j, (hj : j < [(0 : Int), 1001].length) → (w1.alloc (Obj.cells #[.int .i64 0, .int .i64 1001] 2)).cell? ⟨w1.heap.size, j, none⟩ = some (.int .i64 [(0 : Int), 1001][j])) := Lib.hid (lit_at w1 [(0 : Int), 1001] 2)
    have hLw2 : w1.heap.size < (w1.alloc (Obj.cells #[.int .i64 0, .int .i64 1001] 2)).heap.size := by simp
    have hLgw2 : w1.heap.size ≠ g := by have := Hw1.out.lt; omega
    have Hw2a := Lib.hid (Hw1.out.keep hbw2a)
    have Gw2a : Hid (w.grownBy (w1.alloc (Obj.cells #[.int .i64 0, .int .i64 1001] 2)) (some g)) := Lib.hid (gq_trans Gw1.out (gq_alloc w1 _))
    have R1a := Lib.hid (R1.out.keep hbw2a)
    have M1a := Lib.hid (M1.out.keep hbw2a)
    clear hbw2a Hw1 Gw1 R1 M1
    generalize w1.alloc (Obj.cells #[.int .i64 0, .int .i64 1001] 2) = w1a at *
    refine (among_any [(0 : Int), 1001] (by simp) (by simp) IN.out hn Hw2a.out (by omega) hLgw2 hLw2 HXw2.out).mono ?_
    rintro e w2 ⟨rw2, rfl, hmw2, hw2, gw2⟩
    have Hw2 := Lib.hid hw2
    have Gw2 := Lib.hid (gq_trans Gw2a.out gw2)
    simp only [List.mem_cons, List.not_mem_nil, or_false] at hmw2
    clear hw2 HXw2 Hw2a Gw2a
    have R2 := Lib.hid (R1a.out.gb gw2 hRg)
    have M2 := Lib.hid (M1a.out.gb gw2 hMg)
    have hv : -1000000 ≤ rw2 ∧ rw2 ≤ 1000000 := by omega
    clear gw2 hmw2 R1a M1a
    have qq := M2.out.c4
    have ee := M2.out.fr 4
    have H3 := Lib.hid (Hw2.out.other M 4 (.int .i64 rw2) (fun e => hMg e.symm) hMW)
    have G3 := Lib.hid (dg_set Gw2.out M 4 (.int .i64 rw2) hMw)
    have R3 := Lib.hid (R2.out.set M 4 (.int .i64 rw2) (fun e => hMR e.symm))
    have M3 := Lib.hid (M2.out.put4 rw2)
    have m0 := M3.out.c0
    have p0 := R3.out.c0
    have f0 := R3.out.fr 0
    have m1 := M3.out.c1
    have p1 := R3.out.c1
    have f1 := R3.out.fr 1
    have m2 := M3.out.c2
    have p2 := R3.out.c2
    have f2 := R3.out.fr 2
    have m3 := M3.out.c3
    have p3 := R3.out.c3
    have f3 := R3.out.fr 3
    have m4 := M3.out.c4
    have p4 := R3.out.c4
    have f4 := R3.out.fr 4
    have T9 := Lib.hid (((((R3.out.put0 name).put1 x0).put2 x1).put3 x2).put4 rw2)
    clear Hw2 Gw2 R2 M2 R3 M3
    go_wp2_with fail
    have z0 := T9.out.c0
    have z1 := T9.out.c1
    have z2 := T9.out.c2
    have z3 := T9.out.c3
    have z4 := T9.out.c4
    refine bodyPost_ret (v := .agg #[.string name, .int .i64 x0, .int .i64 x1, .int .i64 x2, .int .i64 rw2]) (by simp [results, Tryz.results74, go_sem, z0, z1, z2, z3, z4]) rfl ?_
    exact ⟨_, _, _, _, _, _, rfl, ⟨hs.1, hs.2.1, hs.2.2.1, hs.2.2.2.1, hv⟩, (by omega : k + 1 + 1 ≤ k + 2), (((((H3.out.other R 0 _ (fun e => hRg e.symm) hRW).other R 1 _ (fun e => hRg e.symm) hRW).other R 2 _ (fun e => hRg e.symm) hRW).other R 3 _ (fun e => hRg e.symm) hRW).other R 4 _ (fun e => hRg e.symm) hRW), dg_set (dg_set (dg_set (dg_set (dg_set G3.out R 0 _ hRw) R 1 _ hRw) R 2 _ hRw) R 3 _ hRw) R 4 _ hRw⟩
  by_cases c4 : r = 4
  · subst c4
    go_wp2_with fail
    have hb2 : Below w1.heap.size w1 (w1.alloc (Obj.cells #[.string ⟨#[]⟩, .string ⟨#[80]⟩] 9)) := (Below.refl _ _).alloc (Nat.le_refl _) _
    have HX : Hid (∀ j, (hj : j < [(⟨#[]⟩ : ByteArray), ⟨#[80]⟩].length) → (w1.alloc (Obj.cells #[.string ⟨#[]⟩, .string ⟨#[80]⟩] 9)).cell? ⟨w1.heap.size, j, none⟩ = some (.string [(⟨#[]⟩ : ByteArray), ⟨#[80]⟩][j])) := Lib.hid (by
      intro j hj
      rw [World.cell?_alloc_at _ _ _ _ rfl]
      match j, hj with
      | 0, _ => rfl
      | 1, _ => rfl)
    have hL : w1.heap.size < (w1.alloc (Obj.cells #[.string ⟨#[]⟩, .string ⟨#[80]⟩] 9)).heap.size := by simp
    have hLg : w1.heap.size ≠ g := by have := Hw1.out.lt; omega
    have Hw1a := Lib.hid (Hw1.out.keep hb2)
    have Gw1a : Hid (w.grownBy (w1.alloc (Obj.cells #[.string ⟨#[]⟩, .string ⟨#[80]⟩] 9)) (some g)) := Lib.hid (gq_trans Gw1.out (gq_alloc w1 _))
    have R1a := Lib.hid (R1.out.keep hb2)
    have M1a := Lib.hid (M1.out.keep hb2)
    clear hb2 Hw1 Gw1 R1 M1
    generalize w1.alloc (Obj.cells #[.string ⟨#[]⟩, .string ⟨#[80]⟩] 9) = w1a at *
    refine (text_any [(⟨#[]⟩ : ByteArray), ⟨#[80]⟩] (by simp) (by simp) IN.out hn Hw1a.out (by omega) hLg hL HX.out).mono ?_
    rintro e w2 ⟨rw2, rfl, hm2, h2, g2⟩
    have Hw2 := Lib.hid h2
    have Gw2 := Lib.hid (gq_trans Gw1a.out g2)
    have R2 := Lib.hid (R1a.out.gb g2 hRg)
    have M2 := Lib.hid (M1a.out.gb g2 hMg)
    have hv : rw2.size ≤ 8 := by
      simp only [List.mem_cons, List.not_mem_nil, or_false] at hm2
      rcases hm2 with rfl | rfl <;> decide
    clear h2 g2 hm2 HX Hw1a Gw1a R1a M1a
    have qq := M2.out.c0
    have ee := M2.out.fr 0
    have H3 := Lib.hid (Hw2.out.other M 0 (.string rw2) (fun e => hMg e.symm) hMW)
    have G3 := Lib.hid (dg_set Gw2.out M 0 (.string rw2) hMw)
    have R3 := Lib.hid (R2.out.set M 0 (.string rw2) (fun e => hMR e.symm))
    have M3 := Lib.hid (M2.out.put0 rw2)
    have m0 := M3.out.c0
    have p0 := R3.out.c0
    have f0 := R3.out.fr 0
    have m1 := M3.out.c1
    have p1 := R3.out.c1
    have f1 := R3.out.fr 1
    have m2 := M3.out.c2
    have p2 := R3.out.c2
    have f2 := R3.out.fr 2
    have m3 := M3.out.c3
    have p3 := R3.out.c3
    have f3 := R3.out.fr 3
    have m4 := M3.out.c4
    have p4 := R3.out.c4
    have f4 := R3.out.fr 4
    have T9 := Lib.hid (((((R3.out.put0 rw2).put1 x0).put2 x1).put3 x2).put4 x3)
    clear Hw2 Gw2 R2 M2 R3 M3
    go_wp2_with fail
    have z0 := T9.out.c0
    have z1 := T9.out.c1
    have z2 := T9.out.c2
    have z3 := T9.out.c3
    have z4 := T9.out.c4
    refine bodyPost_ret (v := .agg #[.string rw2, .int .i64 x0, .int .i64 x1, .int .i64 x2, .int .i64 x3]) (by simp [results, Tryz.results74, go_sem, z0, z1, z2, z3, z4]) rfl ?_
    exact ⟨_, _, _, _, _, _, rfl, ⟨hv, hs.2.1, hs.2.2.1, hs.2.2.2.1, hs.2.2.2.2⟩, (by omega : k + 1 + 1 ≤ k + 2), (((((H3.out.other R 0 _ (fun e => hRg e.symm) hRW).other R 1 _ (fun e => hRg e.symm) hRW).other R 2 _ (fun e => hRg e.symm) hRW).other R 3 _ (fun e => hRg e.symm) hRW).other R 4 _ (fun e => hRg e.symm) hRW), dg_set (dg_set (dg_set (dg_set (dg_set G3.out R 0 _ hRw) R 1 _ hRw) R 2 _ hRw) R 3 _ hRw) R 4 _ hRw⟩
  have m0 := M1.out.c0
  have p0 := R1.out.c0
  have f0 := R1.out.fr 0
  have m1 := M1.out.c1
  have p1 := R1.out.c1
  have f1 := R1.out.fr 1
  have m2 := M1.out.c2
  have p2 := R1.out.c2
  have f2 := R1.out.fr 2
  have m3 := M1.out.c3
  have p3 := R1.out.c3
  have f3 := R1.out.fr 3
  have m4 := M1.out.c4
  have p4 := R1.out.c4
  have f4 := R1.out.fr 4
  have T9 := Lib.hid (((((R1.out.put0 name).put1 x0).put2 x1).put3 x2).put4 x3)
  clear R1 M1
  go_wp2_with fail
  have z0 := T9.out.c0
  have z1 := T9.out.c1
  have z2 := T9.out.c2
  have z3 := T9.out.c3
  have z4 := T9.out.c4
  refine bodyPost_ret (v := .agg #[.string name, .int .i64 x0, .int .i64 x1, .int .i64 x2, .int .i64 x3]) (by simp [results, Tryz.results74, go_sem, z0, z1, z2, z3, z4]) rfl ?_
  exact ⟨_, _, _, _, _, _, rfl, ⟨hs.1, hs.2.1, hs.2.2.1, hs.2.2.2.1, hs.2.2.2.2⟩, (by omega : k + 1 ≤ k + 2), (((((Hw1.out.other R 0 _ (fun e => hRg e.symm) hRW).other R 1 _ (fun e => hRg e.symm) hRW).other R 2 _ (fun e => hRg e.symm) hRW).other R 3 _ (fun e => hRg e.symm) hRW).other R 4 _ (fun e => hRg e.symm) hRW), dg_set (dg_set (dg_set (dg_set (dg_set Gw1.out R 0 _ hRw) R 1 _ hRw) R 2 _ hRw) R 3 _ hRw) R 4 _ hRw⟩
theorem fin_DrwC : True := trivial
end

section
/-- The digits of a number, the last one first; none for 0. -/
def rd (u : Nat) : List Int := if u = 0 then [] else (Lib.decDigits u).reverse.map fun c => (c.toNat : Int)

theorem ofNat_digit (d : Nat) (h : d < 10) : ((UInt8.ofNat (48 + d)).toNat : Int) = 48 + (d : Int) := by
  have : (UInt8.ofNat (48 + d)).toNat = 48 + d := by
    rw [UInt8.toNat_ofNat']
    exact Nat.mod_eq_of_lt (by omega)
  omega
theorem rd_step (u : Nat) (h : u ≠ 0) : rd u = (48 + ((u % 10 : Nat) : Int)) :: rd (u / 10) := by
  unfold rd
  rw [if_neg h, Lib.decDigits]
  by_cases c : u < 10
  · rw [dif_pos c, if_pos (by omega)]
    simp only [List.reverse_cons, List.reverse_nil, List.nil_append, List.map_cons, List.map_nil]
    rw [ofNat_digit u c, Nat.mod_eq_of_lt c]
  · rw [dif_neg c, if_neg (by omega)]
    simp only [List.reverse_append, List.reverse_cons, List.reverse_nil, List.nil_append, List.map_cons, List.cons_append]
    rw [ofNat_digit (u % 10) (by omega)]
theorem rd_zero : rd 0 = [] := rfl
theorem rd_len : ∀ (k u : Nat), u < 10 ^ k → (rd u).length ≤ k
  | 0, u, h => by
    have : u = 0 := by simpa using h
    rw [this]; simp [rd_zero]
  | k + 1, u, h => by
    by_cases c : u = 0
    · rw [c]; simp [rd_zero]
    · rw [rd_step u c, List.length_cons]
      have := rd_len k (u / 10) (by rw [Nat.pow_succ] at h; omega)
      omega
theorem rd_back (u : Nat) (h : u ≠ 0) : (rd u).reverse = (Lib.decDigits u).map fun c => (c.toNat : Int) := by
  unfold rd
  rw [if_neg h, ← List.map_reverse, List.reverse_reverse]
theorem str_of_digits (l : List UInt8) : strOfNums (l.map fun c => (c.toNat : Int)) = ⟨l.toArray⟩ := by
  unfold strOfNums
  rw [List.map_map]
  have : ((fun n : Int => UInt8.ofNat n.toNat) ∘ fun c : UInt8 => (c.toNat : Int)) = id := by
    funext c
    simp
  rw [this, List.map_id]

/-- What the digits are, with the sign behind them. -/
def signed (n : Int) : List Int := if n < 0 then rd n.natAbs ++ [45] else rd n.natAbs
theorem signed_back (n : Int) (h : n ≠ 0) : (signed n).reverse = (Lib.itoa n).map fun c => (c.toNat : Int) := by
  unfold signed Lib.itoa
  by_cases c : n < 0
  · rw [if_pos c, if_pos c]
    simp only [List.reverse_append, List.reverse_cons, List.reverse_nil, List.nil_append, List.cons_append, List.map_cons]
    rw [rd_back n.natAbs (by omega)]
    rfl
  · rw [if_neg c, if_neg c, rd_back n.natAbs (by omega), show n.natAbs = n.toNat by omega]

/-- What holds at the head of the loop that divides. -/
structure DecInv (n : Int) (xs : List Int) (m : Int) : Prop where
  list : xs ++ rd m.natAbs = rd n.natAbs
  low : -9223372036854775808 ≤ m
  high : m ≤ 9223372036854775807
  len : xs.length ≤ 19
theorem DecInv.start (n : Int) (h0 : -9223372036854775808 ≤ n) (h1 : n ≤ 9223372036854775807) : DecInv n [] n := ⟨rfl, h0, h1, by simp⟩
theorem len_of (n m : Int) (xs : List Int) (h0 : -9223372036854775808 ≤ n) (h1 : n ≤ 9223372036854775807) (h : xs ++ rd m.natAbs = rd n.natAbs) : xs.length ≤ 19 := by
  have h2 := congrArg List.length h
  rw [List.length_append] at h2
  have := rd_len 19 n.natAbs (by omega)
  omega
theorem DecInv.pos {n m : Int} {xs : List Int} (g0 : -9223372036854775808 ≤ n) (g1 : n ≤ 9223372036854775807) (h : DecInv n xs m) (hm : 0 < m) : DecInv n (xs ++ [48 + m % 10]) (m / 10) := by
  have hl := h.list
  rw [rd_step m.natAbs (by omega)] at hl
  have e1 : ((m.natAbs % 10 : Nat) : Int) = m % 10 := by omega
  have e2 : m.natAbs / 10 = (m / 10).natAbs := by omega
  rw [e1, e2] at hl
  have hl' : xs ++ [48 + m % 10] ++ rd (m / 10).natAbs = rd n.natAbs := by
    rw [List.append_assoc]; exact hl
  have := h.low
  have := h.high
  exact ⟨hl', by omega, by omega, len_of n _ _ g0 g1 hl'⟩
theorem DecInv.neg {n m : Int} {xs : List Int} (g0 : -9223372036854775808 ≤ n) (g1 : n ≤ 9223372036854775807) (h : DecInv n xs m) (hm : m < 0) : DecInv n (xs ++ [48 + (-m) % 10]) (-(-m / 10)) := by
  have hl := h.list
  rw [rd_step m.natAbs (by omega)] at hl
  have e1 : ((m.natAbs % 10 : Nat) : Int) = (-m) % 10 := by omega
  have e2 : m.natAbs / 10 = (-(-m / 10)).natAbs := by omega
  rw [e1, e2] at hl
  have hl' : xs ++ [48 + (-m) % 10] ++ rd (-(-m / 10)).natAbs = rd n.natAbs := by
    rw [List.append_assoc]; exact hl
  have := h.low
  have := h.high
  exact ⟨hl', by omega, by omega, len_of n _ _ g0 g1 hl'⟩
theorem DecInv.done {n : Int} {xs : List Int} (h : DecInv n xs 0) : xs = rd n.natAbs := by
  have := h.list
  rw [Int.natAbs_zero, rd_zero, List.append_nil] at this
  exact this
theorem signed_len (n : Int) (h0 : -9223372036854775808 ≤ n) (h1 : n ≤ 9223372036854775807) : (signed n).length ≤ 20 := by
  unfold signed
  have := rd_len 19 n.natAbs (by omega)
  split
  · rw [List.length_append]; simp; omega
  · omega
theorem signed_pos (n : Int) (h : n ≠ 0) : 0 < (signed n).length := by
  have : rd n.natAbs ≠ [] := by rw [rd_step n.natAbs (by omega)]; simp
  have := List.length_pos_iff.2 this
  unfold signed
  split
  · rw [List.length_append]; omega
  · omega
theorem drop_rev (ys : List Int) (k : Nat) (h : k < ys.length) : (ys.drop k).reverse = (ys.drop (k + 1)).reverse ++ [ys[k]] := by
  rw [List.drop_eq_getElem_cons h, List.reverse_cons]
theorem fin_DecMath : True := trivial
end

section
open Go.RowKit
namespace Dsm

theorem info_u8 : (Tryz.prog.info? 5).map (fun i => (i.zero, i.size, i.bytes)) = some (some (.int .u8 0), 1, 1) := by kernel_rfl

/-- An append to a row of the call's own leaves what was there before B as it was. -/
theorem own_below {B : Nat} {w0 w w1 : World} {e : TypeId} {v : Value} {n : Nat} {xs : List Value} {o : Obj} (hown : w.ownsRow B e 1 v n xs) (hb : Below B w0 w) (hB : B ≤ w.heap.size)
    (hg : (w.alloc o).grownBy w1 v.ownBlock) : Below B w0 w1 ∧ B ≤ w1.heap.size := by
  refine ⟨(hb.alloc hB o).grown hg (by simp; omega) (fun k hk => (hown.lt k hk).1), ?_⟩
  have := hg.size
  simp at this
  omega
theorem one_cell (k : IntKind) (w : World) (T : TypeId) (c : Int) : ∀ (j : Nat) u, [Value.int k c][j]? = some u → (w.alloc (.cells #[.int k c] T)).cell? ((⟨w.heap.size, 0, none⟩ : Addr).add j) = some u := by
  intro j u hj
  match j, hj with
  | 0, hj => simp at hj; subst hj; simp [Addr.add]
theorem one_plain (k : IntKind) (c : Int) : ∀ u ∈ [Value.int k c], u.oneCell' = true := by
  intro u hu
  simp at hu
  subst hu
  rfl

theorem itoa_zero : Lib.itoa 0 = [48] := by
  unfold Lib.itoa
  rw [if_neg (by omega), Lib.decDigits, dif_pos (by decide)]
  rfl
theorem dec_neg (m : Int) (h : m < 0) : m.tmod 10 = -(-m % 10) ∧ m.tdiv 10 = -(-m / 10) := by
  obtain ⟨u, rfl⟩ : ∃ u : Int, m = -u := ⟨-m, by omega⟩
  rw [Int.neg_tmod, Int.neg_tdiv, Int.neg_neg, Int.tmod_eq_emod_of_nonneg (by omega), Int.tdiv_eq_ediv_of_nonneg (by omega)]
  exact ⟨rfl, rfl⟩

set_option maxRecDepth 100000 in
set_option maxHeartbeats 2000000 in
theorem l01Dec_pos (n : Int) (w : World) (h0 : -9223372036854775808 ≤ n) (h1 : n ≤ 9223372036854775807) (hs : 0 < n) :
    Calls Tryz.prog 76 #[.int .i64 n] w fun e w' => e = .returned (.string ⟨(Lib.itoa n).toArray⟩) ∧ Below w.heap.size w w' := by
  have hz : ¬ n = 0 := by omega
  have hz' : (n == 0) = false := by simpa using hz
  obtain ⟨i0, hi, hz0, hz1, hz2⟩ := info_parts info_u8
  have Z := Lib.hid hz
  clear hz
  go_enter Tryz.func76, Tryz.ntmps76
  go_wp2_with fail
  go_loopw [3, 4] (fun v i wr => ∃ (xs : List Int) (m : Int), i = .int .i64 m ∧ wr.ownsRow w.heap.size 5 1 v xs.length (xs.map (Value.int .u8)) ∧ Below w.heap.size w wr ∧ w.heap.size ≤ wr.heap.size ∧ DecInv n xs m)
    (fun _ i _ => (intOf i).natAbs)
  case atStart =>
    exact ⟨[], n, rfl, World.ownsRow_lit w #[] 0 (Nat.le_refl _) (by decide) rfl, (Below.refl _ _).alloc (Nat.le_refl _) _, by simp, DecInv.start n h0 h1⟩
  case round =>
    obtain ⟨xs, m, rfl, hown, hbel, hsz, hinv⟩ := hrel
    have hlow := hinv.low
    have hhigh := hinv.high
    have hlen := hinv.len
    by_cases c0 : m = 0
    · subst c0
      obtain rfl := hinv.done
      clear hinv
      have es : rd n.natAbs = signed n := by unfold signed; rw [if_neg (by omega)]
      rw [es] at hown
      clear es hlen hlow hhigh
      obtain ⟨wx, hwx⟩ : ∃ wx, wx = wr := ⟨_, rfl⟩
      subst hwx
      obtain ⟨g, cap, rfl⟩ := Go.Joins.ownsRow_form hown (signed_pos n Z.out)
      have hgl := (hown.lt g rfl).2
      have hcell : ∀ j, j < (signed n).length → wx.cell? ⟨g, j, none⟩ = some (.int .u8 ((signed n).getD j 0)) := by
        intro j hj
        rw [hown.cellAt j (by omega)]
        simp [hj]
      have hsl := signed_len n h0 h1
      have hsb := Lib.hid (signed_back n Z.out)
      have hpos := signed_pos n Z.out
      clear hown
      generalize signed n = ys at *
      go_wp2_with fail
      go_loopw [6, 7] (fun v i wr => ∃ k : Nat, k ≤ ys.length ∧ i = .int .i64 ((k : Int) - 1) ∧ wr.ownsRow wx.heap.size 5 1 v (ys.length - k) ((ys.drop k).reverse.map (Value.int .u8)) ∧ Below wx.heap.size wx wr ∧ wx.heap.size ≤ wr.heap.size)
        (fun _ i _ => (intOf i + 1).toNat)
      case atStart =>
        refine ⟨ys.length, Nat.le_refl _, rfl, ?_, (Below.refl _ _).alloc (Nat.le_refl _) _, by simp⟩
        rw [Nat.sub_self, List.drop_length]
        exact World.ownsRow_lit wx #[] 0 (Nat.le_refl _) (by decide) rfl
      case round =>
        obtain ⟨k, hk, rfl, hown2, hbel2, hsz2⟩ := hrel
        cases k with
        | zero =>
          rw [List.drop_zero, Nat.sub_zero] at hown2
          obtain ⟨g2, cap2, rfl⟩ := Go.Joins.ownsRow_form hown2 hpos
          have hconv := run_convert_bytes_arg (P := Tryz.prog) wr 42 5 Tryz.underlying42 Tryz.underlying5 g2 0 ys.length cap2 ys.reverse (by simp) (fun i hi => by
            rw [Nat.zero_add, hown2.cellAt i (by omega)]
            simp [hi]) 9 Tryz.underlying9
          have hfin : strOfNums ys.reverse = ⟨(Lib.itoa n).toArray⟩ := by rw [hsb.out, str_of_digits]
          have HF := Lib.hid hfin
          clear hfin hown2 hcell
          go_wp2_with fail
          go_ret
          exact ⟨ret_str HF.out, hbel.trans (hbel2.mono hsz)⟩
        | succ j =>
          have hread : wr.cell? ⟨g, j, none⟩ = some (.int .u8 (ys.getD j 0)) := (hbel2.cell (p := ⟨g, j, none⟩) hgl).trans (hcell j (by omega))
          have hjl : j < ys.length := by omega
          have hdr := drop_rev ys j hjl
          have HD := Lib.hid hdr
          clear hdr
          have hread2 : wr.cell? ⟨g, 0 + j, none⟩ = some (.int .u8 (ys.getD j 0)) := by rw [Nat.zero_add]; exact hread
          go_wp2_with (at_builtin; refine wpList_append_own _ rfl _ _ 42 rfl wx.heap.size 5 i0 (.int .u8 0) 1 1 Tryz.underlying42 hi hz0 hz1 hz2 rfl (by decide) _ _ _ rfl (hown2.alloc _) ⟨wr.heap.size, 0, none⟩ 1 1 [.int .u8 (ys[j])] rfl rfl ?c1 ?c2 ?c3 ?c4 ?c5 ?_)
          case c1 => exact one_cell _ _ _ _
          case c2 => exact one_plain _ _
          case c3 => unfold maxLen; omega
          case c4 => omega
          case c5 => simp; omega
          intro v' w1 hown' hgrow _
          obtain ⟨hb1, hs1⟩ := own_below hown2 hbel2 hsz2 hgrow
          have ho : w1.ownsRow wx.heap.size 5 1 v' (ys.length - j) ((ys.drop j).reverse.map (Value.int .u8)) := by
            rw [HD.out, List.map_append, List.map_reverse, List.map_drop, show ys.length - j = ys.length - (j + 1) + 1 by omega]
            exact hown'
          clear hown2 hown' hgrow hbel2 hsz2 hread hread2
          go_wp2_with fail
          go_roundw
          case rel => exact ⟨j, by omega, by go_num, ho, hb1, hs1⟩
          case measure => (simp [intOf] <;> omega)
    · have c0' : (m != 0) = true := by simpa using c0
      by_cases c1 : m < 0
      · have hnext := DecInv.neg h0 h1 hinv c1
        obtain ⟨t1, t2⟩ := dec_neg m c1
        have r0 : 0 ≤ -m % 10 := by omega
        have r1 : -m % 10 < 10 := by omega
        have q1 : (-(-m / 10)).natAbs < m.natAbs := by omega
        have q2 : -9223372036854775808 ≤ -(-m / 10) := by omega
        have q3 : -(-m / 10) ≤ 9223372036854775807 := by omega
        generalize -m % 10 = r at *
        generalize -(-m / 10) = q at *
        have HN := Lib.hid hnext
        have HQ := Lib.hid q1
        clear hnext hinv q1
        by_cases c2 : 0 < r
        · go_wp2_with (at_builtin; refine wpList_append_own _ rfl _ _ 42 rfl w.heap.size 5 i0 (.int .u8 0) 1 1 Tryz.underlying42 hi hz0 hz1 hz2 rfl (by decide) _ _ _ rfl (hown.alloc _) ⟨wr.heap.size, 0, none⟩ 1 1 [.int .u8 (48 + r)] rfl rfl ?c1 ?c2 ?c3 ?c4 ?c5 ?_)
          case c1 => exact one_cell _ _ _ _
          case c2 => exact one_plain _ _
          case c3 => unfold maxLen; omega
          case c4 => omega
          case c5 => simp; omega
          intro v' w1 hown' hgrow _
          obtain ⟨hb1, hs1⟩ := own_below hown hbel hsz hgrow
          have ho : w1.ownsRow w.heap.size 5 1 v' (xs ++ [48 + r]).length ((xs ++ [48 + r]).map (Value.int .u8)) := by simpa using hown'
          clear hown hown' hgrow hbel hsz
          go_wp2_with fail
          go_roundw
          case rel => exact ⟨_, _, rfl, ho, hb1, hs1, HN.out⟩
          case measure => exact HQ.out
        · obtain rfl : r = 0 := by omega
          have t1' : m.tmod 10 = 0 := by rw [t1]; rfl
          clear t1 c2
          go_wp2_with (at_builtin; refine wpList_append_own _ rfl _ _ 42 rfl w.heap.size 5 i0 (.int .u8 0) 1 1 Tryz.underlying42 hi hz0 hz1 hz2 rfl (by decide) _ _ _ rfl (hown.alloc _) ⟨wr.heap.size, 0, none⟩ 1 1 [.int .u8 (48 + 0)] rfl rfl ?c1 ?c2 ?c3 ?c4 ?c5 ?_)
          case c1 => exact one_cell _ _ _ _
          case c2 => exact one_plain _ _
          case c3 => unfold maxLen; omega
          case c4 => omega
          case c5 => simp; omega
          intro v' w1 hown' hgrow _
          obtain ⟨hb1, hs1⟩ := own_below hown hbel hsz hgrow
          have ho : w1.ownsRow w.heap.size 5 1 v' (xs ++ [48 + 0]).length ((xs ++ [48 + 0]).map (Value.int .u8)) := by simpa using hown'
          clear hown hown' hgrow hbel hsz
          go_wp2_with fail
          go_roundw
          case rel => exact ⟨_, _, rfl, ho, hb1, hs1, HN.out⟩
          case measure => exact HQ.out
      · have hnext := DecInv.pos h0 h1 hinv (by omega)
        have HN := Lib.hid hnext
        clear hnext hinv
        have hp : 0 ≤ m := by omega
        have r0 : 0 ≤ m % 10 := by omega
        have r1 : m % 10 < 10 := by omega
        clear c1
        go_wp2_with (at_builtin; refine wpList_append_own _ rfl _ _ 42 rfl w.heap.size 5 i0 (.int .u8 0) 1 1 Tryz.underlying42 hi hz0 hz1 hz2 rfl (by decide) _ _ _ rfl (hown.alloc _) ⟨wr.heap.size, 0, none⟩ 1 1 [.int .u8 (48 + m % 10)] rfl rfl ?c1 ?c2 ?c3 ?c4 ?c5 ?_)
        case c1 => exact one_cell _ _ _ _
        case c2 => exact one_plain _ _
        case c3 => unfold maxLen; omega
        case c4 => omega
        case c5 => simp; omega
        intro v' w1 hown' hgrow _
        obtain ⟨hb1, hs1⟩ := own_below hown hbel hsz hgrow
        have ho : w1.ownsRow w.heap.size 5 1 v' (xs ++ [48 + m % 10]).length ((xs ++ [48 + m % 10]).map (Value.int .u8)) := by simpa using hown'
        clear hown hown' hgrow hbel hsz
        go_wp2_with fail
        go_roundw
        case rel => exact ⟨_, _, rfl, ho, hb1, hs1, HN.out⟩
        case measure => (simp [intOf] <;> omega)

theorem dec_small (j : Nat) (hj : j ≤ 9) (w : World) :
    Calls Tryz.prog 76 #[.int .i64 (j : Int)] w fun e w' => ∃ t : ByteArray, e = .returned (.string t) ∧ t.size ≤ 2 ∧ Below w.heap.size w w' := by
  rcases Nat.eq_zero_or_pos j with rfl | hp
  · go_enter Tryz.func76, Tryz.ntmps76
    go_wp2_with fail
    go_ret
    exact ⟨_, rfl, by show 1 ≤ 2; omega, Below.refl _ _⟩
  · refine (l01Dec_pos (j : Int) w (by omega) (by omega) (by omega)).mono ?_
    rintro e w' ⟨rfl, hb⟩
    refine ⟨_, rfl, ?_, hb⟩
    have e : Lib.itoa (j : Int) = [UInt8.ofNat (48 + j)] := by
      unfold Lib.itoa
      rw [if_neg (by omega), Lib.decDigits, dif_pos (by simp; omega)]
      rfl
    rw [e]
    show 1 ≤ 2
    omega
end Dsm
theorem fin_DecS : True := trivial
end

section
open Go.RowKit
set_option linter.unusedVariables false

def flatS (zs : List StarV) : List Value := zs.flatMap StarV.cells
theorem flatS_cons (x : StarV) (zs : List StarV) : flatS (x :: zs) = x.cells ++ flatS zs := rfl
theorem flatS_app (a b : List StarV) : flatS (a ++ b) = flatS a ++ flatS b := List.flatMap_append
theorem flatS_len : ∀ zs : List StarV, (flatS zs).length = zs.length * 5
  | [] => rfl
  | x :: zs => by
    rw [flatS_cons, List.length_append, flatS_len zs, List.length_cons]
    show 5 + _ = _
    omega
theorem flatS_get : ∀ (zs : List StarV) (j : Nat) (hj : j < zs.length) (i : Nat), i < 5 → (flatS zs)[j * 5 + i]? = some (fieldV zs[j] i)
  | x :: zs, 0, _, i, hi => by
    rw [flatS_cons, Nat.zero_mul, Nat.zero_add, List.getElem?_append_left (by show i < 5; exact hi)]
    rcases (by omega : i = 0 ∨ i = 1 ∨ i = 2 ∨ i = 3 ∨ i = 4) with rfl | rfl | rfl | rfl | rfl <;> rfl
  | x :: zs, j + 1, hj, i, hi => by
    rw [flatS_cons, List.getElem?_append_right (by show 5 ≤ _; omega)]
    have := flatS_get zs j (by simpa using hj) i hi
    rw [show (j + 1) * 5 + i - x.cells.length = j * 5 + i by show (j + 1) * 5 + i - 5 = _; omega]
    exact this
theorem flatS_one : ∀ (zs : List StarV), ∀ u ∈ flatS zs, u.oneCell' = true
  | [], u, h => by cases h
  | x :: zs, u, h => by
    rw [flatS_cons, List.mem_append] at h
    rcases h with h | h
    · simp only [StarV.cells, List.mem_cons, List.not_mem_nil, or_false] at h
      rcases h with rfl | rfl | rfl | rfl | rfl <;> rfl
    · exact flatS_one zs u h
/-- v is an own row of these stars, at B or above. -/
def SOwn (w : World) (B : Nat) (v : Value) (zs : List StarV) : Prop := w.ownsRow B 37 5 v zs.length (flatS zs)
theorem SOwn.at {w : World} {B g cap : Nat} {zs : List StarV} (h : SOwn w B (.slice (some ⟨g, 0, none⟩) zs.length cap) zs) (j : Nat) (hj : j < zs.length) : StarAt w g (j * 5) zs[j] := by
  have e : ∀ i, i < 5 → w.cell? ⟨g, j * 5 + i, none⟩ = some (fieldV zs[j] i) := by
    intro i hi
    have := World.ownsRow.cells h (g := g) rfl (j * 5 + i) _ (flatS_get zs j hj i hi)
    have ea : ((⟨g, 0, none⟩ : Addr).add (j * 5 + i)) = ⟨g, j * 5 + i, none⟩ := by unfold Addr.add; split <;> simp_all
    rwa [ea] at this
  exact ⟨e 0 (by omega), e 1 (by omega), e 2 (by omega), e 3 (by omega), e 4 (by omega)⟩
theorem SOwn.forms {w : World} {B : Nat} {v : Value} {zs : List StarV} (h : SOwn w B v zs) : (v = .slice none 0 0 ∧ zs = []) ∨ ∃ g cap, v = .slice (some ⟨g, 0, none⟩) zs.length cap ∧ B ≤ g ∧ g < w.heap.size := by
  rcases h.2 with ⟨hv, h0⟩ | ⟨g, cap, cur, hv, hg, hh, _⟩
  · exact Or.inl ⟨hv, List.length_eq_zero_iff.1 h0⟩
  · exact Or.inr ⟨g, cap, hv, hg, (Array.getElem?_eq_some_iff.1 hh).1⟩
theorem SOwn.keep {w w' : World} {B : Nat} {v : Value} {zs : List StarV} (h : SOwn w B v zs) (hb : Below w.heap.size w w') : SOwn w' B v zs :=
  World.ownsRow.kept h (⟨hb.os, hb.tape, hb.output, hb.size, fun k hk _ => hb.block k hk⟩ : w.grownBy w' none) (by cases hv : v.ownBlock <;> simp)
theorem SOwn.gb {w w' : World} {B g : Nat} {v : Value} {zs : List StarV} (h : SOwn w B v zs) (hg : w.grownBy w' (some g)) (hlt : g < B) : SOwn w' B v zs := by
  refine World.ownsRow.kept h hg ?_
  rcases h.forms with ⟨rfl, _⟩ | ⟨g', cap, rfl, hB, _⟩
  · exact Or.inl rfl
  · refine Or.inr (fun e => ?_)
    have : g' = g := by simpa [Value.ownBlock] using e
    omega
theorem SOwn.nil (w : World) (B : Nat) : SOwn w B (.slice none 0 0) [] := World.ownsRow_nil _ _ _ _
theorem SOwn.le {w : World} {B B' : Nat} {v : Value} {zs : List StarV} (h : SOwn w B' v zs) (hB : B ≤ B') : SOwn w B v zs := by
  rcases h with ⟨h0, h1 | ⟨g, cap, cur, hv, hg, r⟩⟩
  · exact ⟨h0, Or.inl h1⟩
  · exact ⟨h0, Or.inr ⟨g, cap, cur, hv, by omega, r⟩⟩
theorem SOwn.row {w : World} {B g cap : Nat} {zs : List StarV} (h : SOwn w B (.slice (some ⟨g, 0, none⟩) zs.length cap) zs) : Row w g zs := by
  rcases h.2 with ⟨hv, _⟩ | ⟨g', cap', cur, hv, hg, hh, hn, hcm, hsz, htk⟩
  · cases hv
  · obtain ⟨rfl, rfl⟩ : g' = g ∧ cap' = cap := by
      injection hv with h1 h2 h3
      injection h1 with h1
      injection h1 with h1
      exact ⟨h1.symm, h3.symm⟩
    refine ⟨cap' * 5, fun k => cur.toList.getD k undef, ⟨cur, hh, hsz, fun i hi => ?_⟩, by omega, fun k hk => ?_⟩
    · have hl : i < cur.toList.length := by simpa [hsz] using hi
      show cur[i]? = some (cur.toList.getD i undef)
      have e : cur.toList.getD i undef = cur.toList[i] := by unfold List.getD; rw [List.getElem?_eq_getElem hl]; rfl
      rw [e, ← Array.getElem?_toList, List.getElem?_eq_getElem hl]
    · have e : (flatS zs)[k / 5 * 5 + k % 5]? = some (fieldV zs[k / 5] (k % 5)) := flatS_get zs (k / 5) (by omega) (k % 5) (by omega)
      rw [show k / 5 * 5 + k % 5 = k by omega, ← htk, List.getElem?_take, if_pos (by omega)] at e
      show cur.toList.getD k undef = rowF zs k
      unfold rowF
      have e1 : cur.toList.getD k undef = fieldV zs[k / 5] (k % 5) := by unfold List.getD; rw [e]; rfl
      have e2 : zs.getD (k / 5) star0 = zs[k / 5] := by unfold List.getD; rw [List.getElem?_eq_getElem (show k / 5 < zs.length by omega)]; rfl
      rw [e1, e2]
def StarV.small (x : StarV) : Prop := Small x.s x.a x.b x.c x.d
theorem StarV.small.ok {x : StarV} (h : x.small) : x.ok := by
  obtain ⟨h0, h1, h2, h3, h4⟩ := h
  refine ⟨by unfold maxLen; omega, ?_, ?_, ?_, ?_⟩ <;> (unfold fits; omega)
theorem SrcAt.grown {W w w' : World} {g n cap k : Nat} {a : Option Addr} {row : Option Nat} (h : SrcAt W w g a n cap k) (hg : w.grownBy w' row) (hne : row ≠ some g) (hr : ∀ b, row = some b → W.heap.size ≤ b) : SrcAt W w' g a n cap k := by
  obtain ⟨s, c2, s0, s1⟩ := h.c2
  have hb := hg.block g h.lt (fun e => hne e.symm)
  have := hg.size
  have hl := h.lt
  have hbel := h.bel
  exact ⟨(World.cell?_of_block (a := ⟨g, 0, none⟩) hb).trans h.c0, (World.cell?_of_block (a := ⟨g, 1, none⟩) hb).trans h.c1, ⟨s, (World.cell?_of_block (a := ⟨g, 2, none⟩) hb).trans c2, s0, s1⟩, fun i => (World.frozen?_of_block (a := ⟨g, i, none⟩) hb).trans (h.fr i), h.old, by omega,
    ⟨hg.os.trans hbel.os, hg.tape.trans hbel.tape, hg.output.trans hbel.output, Nat.le_trans hbel.size hg.size, fun j hj => (hg.block j (Nat.lt_of_lt_of_le hj hbel.size) (fun e => by have := hr j e.symm; omega)).trans (hbel.block j hj)⟩⟩
theorem dg_grow {w w' w'' : World} {g : Nat} {row : Option Nat} (h : w.grownBy w' (some g)) (k : w'.grownBy w'' row) (hr : ∀ b, row = some b → w.heap.size ≤ b) : w.grownBy w'' (some g) :=
  ⟨k.os.trans h.os, k.tape.trans h.tape, k.output.trans h.output, Nat.le_trans h.size k.size, fun i hi hne => (k.block i (Nat.lt_of_lt_of_le hi h.size) (fun e => by have := hr i e.symm; omega)).trans (h.block i hi hne)⟩
theorem SOwn.blk {w : World} {B : Nat} {v : Value} {zs : List StarV} (h : SOwn w B v zs) : ∀ b, v.ownBlock = some b → B ≤ b := by
  intro b hb
  rcases h.forms with ⟨rfl, _⟩ | ⟨g', cap, rfl, hB, _⟩
  · cases hb
  · have : g' = b := by simpa [Value.ownBlock] using hb
    omega
theorem SOwn.app {w : World} {B : Nat} {v : Value} {zs : List StarV} {x : StarV} (h : w.ownsRow B 37 5 v (zs.length + 1) (flatS zs ++ x.cells)) : SOwn w B v (zs ++ [x]) := by
  unfold SOwn
  rw [List.length_append, flatS_app]
  exact h
def nm (j : Nat) : ByteArray := ⟨#[UInt8.ofNat (97 + j)]⟩
/-- Block b holds the four names. -/
def NmAt (w : World) (b : Nat) : Prop := b < w.heap.size ∧ ∀ j, j < 4 → w.cell? ⟨b, j, none⟩ = some (.string (nm j))
theorem NmAt.gb {w w' : World} {b : Nat} {row : Option Nat} (h : NmAt w b) (hg : w.grownBy w' row) (hne : row ≠ some b) : NmAt w' b :=
  ⟨by have := hg.size; have := h.1; omega, fun j hj => (World.cell?_of_block (a := ⟨b, j, none⟩) (hg.block b h.1 (fun e => hne e.symm))).trans (h.2 j hj)⟩
theorem NmAt.keep {w w' : World} {b : Nat} (h : NmAt w b) (hb : Below w.heap.size w w') : NmAt w' b :=
  ⟨by have := hb.size; have := h.1; omega, fun j hj => (hb.cell (p := ⟨b, j, none⟩) h.1).trans (h.2 j hj)⟩
theorem gq_bel {a b : World} (row : Option Nat) (h : Below a.heap.size a b) : a.grownBy b row := ⟨h.os, h.tape, h.output, h.size, fun i hi _ => h.block i hi⟩
theorem new_cells (W : World) (cs : List Value) (T : TypeId) : ∀ j u, cs[j]? = some u → (W.alloc (.cells cs.toArray T)).cell? ((⟨W.heap.size, 0, none⟩ : Addr).add j) = some u := by
  intro j u hj
  have ea : ((⟨W.heap.size, 0, none⟩ : Addr).add j) = ⟨W.heap.size, j, none⟩ := by unfold Addr.add; split <;> simp_all
  rw [ea, World.cell?_alloc_at _ _ _ _ rfl]
  show cs.toArray[j]? = some u
  simpa using hj
theorem five_one (s : ByteArray) (a b c d : Int) : ∀ u ∈ [Value.string s, .int .i64 a, .int .i64 b, .int .i64 c, .int .i64 d], u.oneCell' = true := by
  intro u hu
  simp only [List.mem_cons, List.not_mem_nil, or_false] at hu
  rcases hu with rfl | rfl | rfl | rfl | rfl <;> rfl
set_option maxRecDepth 100000 in
set_option maxHeartbeats 4000000 in
theorem draw10_any {W w : World} {g n cap k : Nat} {a : Option Addr} {zs : List Int} (hin : BytesIn W (.slice a n cap) zs) (hn : zs.length ≤ 1048576) (h : SrcAt W w g a n cap k) (hk : k ≤ 10) :
    Calls Tryz.prog 42 #[.pointer (some ⟨g, 0, none⟩)] w fun e w' => ∃ (v : Value) (ys : List StarV) (k' : Nat), e = .returned v ∧ v ≠ .slice none 0 0 ∧ SOwn w' w.heap.size v ys ∧ ys.length ≤ 7 ∧ (∀ x ∈ ys, x.small) ∧ k' ≤ k + 50 ∧ SrcAt W w' g a n cap k' ∧ w.grownBy w' (some g) := by
  have IN := Lib.hid hin
  have H := Lib.hid h
  have G : Hid (w.grownBy w (some g)) := Lib.hid ⟨rfl, rfl, rfl, Nat.le_refl _, fun _ _ _ => rfl⟩
  clear hin h
  obtain ⟨i0, hi, hzz⟩ := Option.map_eq_some_iff.1 info_star
  simp only [Prod.mk.injEq] at hzz
  obtain ⟨hz0, hz1, hz2⟩ := hzz
  go_enter Tryz.func42, Tryz.ntmps42
  go_wp2_with fail
  have hgw : g < w.heap.size := H.out.lt
  have hWw : W.heap.size ≤ w.heap.size := H.out.bel.size
  have hb0 : Below w.heap.size w (w.alloc (Obj.cells #[.string ⟨#[97]⟩, .string ⟨#[98]⟩, .string ⟨#[99]⟩, .string ⟨#[100]⟩] 9)) := (Below.refl _ _).alloc (Nat.le_refl _) _
  have hs0 : (w.alloc (Obj.cells #[.string ⟨#[97]⟩, .string ⟨#[98]⟩, .string ⟨#[99]⟩, .string ⟨#[100]⟩] 9)).heap.size = w.heap.size + 1 := by simp
  have hb1 : Below (w.heap.size + 1) (w.alloc (Obj.cells #[.string ⟨#[97]⟩, .string ⟨#[98]⟩, .string ⟨#[99]⟩, .string ⟨#[100]⟩] 9)) ((w.alloc (Obj.cells #[.string ⟨#[97]⟩, .string ⟨#[98]⟩, .string ⟨#[99]⟩, .string ⟨#[100]⟩] 9)).alloc (Obj.cells #[] 37)) := (Below.refl _ _).alloc (by simp) _
  have NM0a : NmAt (w.alloc (Obj.cells #[.string ⟨#[97]⟩, .string ⟨#[98]⟩, .string ⟨#[99]⟩, .string ⟨#[100]⟩] 9)) w.heap.size := ⟨by simp, fun j hj => by
    rw [World.cell?_alloc_at _ _ _ _ rfl]
    match j, hj with
    | 0, _ => rfl
    | 1, _ => rfl
    | 2, _ => rfl
    | 3, _ => rfl⟩
  have NM0 := Lib.hid (NM0a.keep (w' := (w.alloc (Obj.cells #[.string ⟨#[97]⟩, .string ⟨#[98]⟩, .string ⟨#[99]⟩, .string ⟨#[100]⟩] 9)).alloc (Obj.cells #[] 37)) (by rw [hs0]; exact hb1))
  have SO0 : Hid (SOwn ((w.alloc (Obj.cells #[.string ⟨#[97]⟩, .string ⟨#[98]⟩, .string ⟨#[99]⟩, .string ⟨#[100]⟩] 9)).alloc (Obj.cells #[] 37)) (w.heap.size + 1) (.slice (some ⟨w.heap.size + 1, 0, none⟩) 0 0) []) := Lib.hid (by
    have h := World.ownsRow_made (base := w.heap.size + 1) (e := 37) (size := 5) (w.alloc (Obj.cells #[.string ⟨#[97]⟩, .string ⟨#[98]⟩, .string ⟨#[99]⟩, .string ⟨#[100]⟩] 9)) #[] 0 (by simp) (Nat.zero_le _) rfl
    rw [hs0] at h
    exact h)
  have H0 := Lib.hid ((H.out.keep hb0).keep (w' := (w.alloc (Obj.cells #[.string ⟨#[97]⟩, .string ⟨#[98]⟩, .string ⟨#[99]⟩, .string ⟨#[100]⟩] 9)).alloc (Obj.cells #[] 37)) (by rw [hs0]; exact hb1))
  have G0 : Hid (w.grownBy ((w.alloc (Obj.cells #[.string ⟨#[97]⟩, .string ⟨#[98]⟩, .string ⟨#[99]⟩, .string ⟨#[100]⟩] 9)).alloc (Obj.cells #[] 37)) (some g)) := Lib.hid (gq_trans (gq_alloc w _) (gq_alloc (w.alloc (Obj.cells #[.string ⟨#[97]⟩, .string ⟨#[98]⟩, .string ⟨#[99]⟩, .string ⟨#[100]⟩] 9)) _))
  obtain ⟨N, hN⟩ : ∃ N, N = w.heap.size := ⟨_, rfl⟩
  rw [← hN] at NM0 SO0 ⊢
  obtain ⟨B, hB⟩ : ∃ B, B = N + 1 := ⟨_, rfl⟩
  rw [← hB] at SO0 ⊢
  have hgN : g < N := by omega
  have hBw : w.heap.size < B := by omega
  have hWB : W.heap.size ≤ B := by omega
  have hNB : N < B := by omega
  have hgB : g < B := by omega
  have hNw : w.heap.size ≤ N := by omega
  have HBN := Lib.hid hB
  clear NM0a hb0 hb1 hs0 H G hN hB
  generalize (w.alloc (Obj.cells #[.string ⟨#[97]⟩, .string ⟨#[98]⟩, .string ⟨#[99]⟩, .string ⟨#[100]⟩] 9)).alloc (Obj.cells #[] 37) = wa at *
  go_loopg [4, 5] 5 (fun kx s4 s5 wr => ∃ (j : Nat) (ys : List StarV) (k' : Nat), s5 = .int .i64 (j : Int) ∧ j ≤ 4 ∧ kx = 5 - j ∧ Hid (SOwn wr B s4 ys) ∧ ys.length ≤ j ∧ Hid (∀ x ∈ ys, x.small) ∧ k' ≤ k + 9 * j ∧ Hid (SrcAt W wr g a n cap k') ∧ Hid (w.grownBy wr (some g)) ∧ Hid (NmAt wr N) ∧ Hid (s4 ≠ .slice none 0 0))
  case atStart => exact ⟨0, [], k, rfl, Nat.zero_le _, rfl, SO0, Nat.zero_le _, Lib.hid (fun x hx => by cases hx), by omega, H0, G0, NM0, Lib.hid (fun e => by cases e)⟩
  case round =>
    clear SO0 H0 G0 NM0
    obtain ⟨j, ys, k1, rfl, hj, rfl, SO, hl, SM, hk1, H, G, NM, NE⟩ := hrel
    by_cases hlt : j < 4
    · have j0 : (0 : Int) ≤ (j : Int) := by omega
      have j1 : (j : Int) < 4 := by omega
      go_wp2_with fail
      refine (one_any 2 (by omega) (by omega) IN.out hn H.out (by omega)).mono ?_
      rintro e w1 ⟨b, rfl, h1, g1⟩
      have Hw1 := Lib.hid h1
      have Gw1 := Lib.hid (gq_trans G.out g1)
      have SOw1 := Lib.hid (SO.out.gb g1 hgB)
      have NMw1 := Lib.hid (NM.out.gb g1 (fun e => by injection e with e; omega))
      clear h1 g1 H G SO NM
      cases b with
      | false =>
        go_wp2_with fail
        go_roundg (5 - (j + 1))
        case measure => omega
        case rel => exact ⟨j + 1, ys, k1 + 1, by go_num, by omega, rfl, SOw1, by omega, SM, by omega, Hw1, Gw1, NMw1, NE⟩
      | true =>
        have hr := NMw1.out.2 j hlt
        have TS : Hid ((nm j).size ≤ 8) := Lib.hid (by show 1 ≤ 8; omega)
        generalize nm j = t at *
        go_wp2_with fail
        refine (one10_any t IN.out hn Hw1.out (by omega)).mono ?_
        rintro e w2 ⟨x0, x1, x2, x3, k2, rfl, hx0, hx1, hx2, hx3, hk2, h2, g2⟩
        have Hw2 := Lib.hid h2
        have Gw2 := Lib.hid (gq_trans Gw1.out g2)
        have SOw2 := Lib.hid (SOw1.out.gb g2 hgB)
        have NMw2 := Lib.hid (NMw1.out.gb g2 (fun e => by injection e with e; omega))
        have SX : Hid (Small t x0 x1 x2 x3) := Lib.hid ⟨TS.out, by omega, by omega, by omega, by omega⟩
        clear h2 g2 Hw1 Gw1 SOw1 NMw1 hr TS
        have hLB : B ≤ w2.heap.size := by have := NMw2.out.1; have := HBN.out; omega
        have hm : ys.length + 1 ≤ maxLen := by unfold maxLen; omega
        have hy : (ys.length + 1) * 48 ≤ 140737488355328 := by omega
        obtain ⟨i0, hi, hzz⟩ := Option.map_eq_some_iff.1 info_star
        simp only [Prod.mk.injEq] at hzz
        obtain ⟨hz0, hz1, hz2⟩ := hzz
        have haw3 : Below w2.heap.size w2 (w2.alloc (Obj.cells #[.string t, .int .i64 x0, .int .i64 x1, .int .i64 x2, .int .i64 x3] 37)) := (Below.refl _ _).alloc (Nat.le_refl _) _
        have HAw3 := Lib.hid (Hw2.out.keep haw3)
        have GAw3 : Hid (w.grownBy (w2.alloc (Obj.cells #[.string t, .int .i64 x0, .int .i64 x1, .int .i64 x2, .int .i64 x3] 37)) (some g)) := Lib.hid (gq_trans Gw2.out (gq_alloc w2 _))
        have NAw3 := Lib.hid (NMw2.out.keep haw3)
        have BKw3 := Lib.hid SOw2.out.blk
        have LA : B ≤ (w2.alloc (Obj.cells #[.string t, .int .i64 x0, .int .i64 x1, .int .i64 x2, .int .i64 x3] 37)).heap.size := Nat.le_trans hLB (by simp)
        clear haw3
        go_wp2_with (at_builtin; refine wpList_append_own _ rfl _ _ 27 rfl B 37 i0 (.agg #[.string ByteArray.empty, .int .i64 0, .int .i64 0, .int .i64 0, .int .i64 0]) 5 48 Tryz.underlying27 hi hz0 hz1 hz2 rfl (by decide) _ _ _ rfl (SOw2.out.alloc _) ⟨w2.heap.size, 0, none⟩ 1 1 [.string t, .int .i64 x0, .int .i64 x1, .int .i64 x2, .int .i64 x3] rfl rfl (new_cells w2 _ _) (five_one _ _ _ _ _) hm hy (Nat.le_trans hLB (by simp)) ?_; intro vw3 w3 hownw3 hgroww3 hnilw3)
        have SOw3 : Hid (SOwn w3 B vw3 (ys ++ [⟨t, x0, x1, x2, x3⟩])) := Lib.hid (SOwn.app hownw3)
        have Hw3 := Lib.hid (HAw3.out.grown hgroww3 (fun e => by have := BKw3.out _ e; omega) (fun b hb => by have := BKw3.out b hb; omega))
        have Gw3 := Lib.hid (dg_grow GAw3.out hgroww3 (fun b hb => by have := BKw3.out b hb; omega))
        have NEw3 : Hid (vw3 ≠ .slice none 0 0) := Lib.hid (fun e => by have := (hnilw3.1 e).2; omega)
        clear hnilw3
        have NMw3 := Lib.hid (NAw3.out.gb hgroww3 (fun e => by have := BKw3.out _ e; omega))
        go_roundg (5 - (j + 1))
        case measure => omega
        case rel => exact ⟨j + 1, ys ++ [⟨t, x0, x1, x2, x3⟩], k2, by go_num, by omega, rfl, SOw3, by rw [List.length_append]; show ys.length + 1 ≤ _; omega, Lib.hid (fun x hx => by
          rcases List.mem_append.1 hx with h | h
          · exact SM.out x h
          · rw [List.mem_singleton] at h
            subst h
            exact SX.out), by omega, Hw3, Gw3, NMw3, NEw3⟩
    · have h4 : j = 4 := by omega
      go_wp2_with fail
      refine (pick1_any 20 (by omega) (by omega) IN.out hn H.out (by omega)).mono ?_
      rintro e w1 ⟨r, rfl, r0, r1, h1, g1⟩
      have Hw1 := Lib.hid h1
      have Gw1 := Lib.hid (gq_trans G.out g1)
      have SOw1 := Lib.hid (SO.out.gb g1 hgB)
      have LB1 : B ≤ w1.heap.size := by have := NM.out.1; have := HBN.out; have := g1.size; omega
      clear h1 g1 H G SO NM
      by_cases c0 : r = 0
      · subst c0
        go_wp2_with fail
        refine (one10_any ⟨#[97]⟩ IN.out hn Hw1.out (by omega)).mono ?_
        rintro e w2 ⟨x0, x1, x2, x3, k2, rfl, hx0, hx1, hx2, hx3, hk2, h2, g2⟩
        have Hw2 := Lib.hid h2
        have Gw2 := Lib.hid (gq_trans Gw1.out g2)
        have SOw2 := Lib.hid (SOw1.out.gb g2 hgB)
        have LB2 : B ≤ w2.heap.size := by have := g2.size; omega
        clear h2 g2 Hw1 Gw1 SOw1
        go_wp2_with fail
        refine (bend10_any ⟨#[97]⟩ x0 x1 x2 x3 IN.out hn Hw2.out ⟨by show 1 ≤ 8; omega, by omega, by omega, by omega, by omega⟩ (by omega)).mono ?_
        rintro e w3 ⟨t, y0, y1, y2, y3, k3, rfl, hsm, hk3, h3, g3⟩
        have Hw3 := Lib.hid h3
        have Gw3 := Lib.hid (gq_trans Gw2.out g3)
        have SOw3 := Lib.hid (SOw2.out.gb g3 hgB)
        have hLB : B ≤ w3.heap.size := by have := g3.size; omega
        have SX := Lib.hid hsm
        have hm : ys.length + 1 ≤ maxLen := by unfold maxLen; omega
        have hy : (ys.length + 1) * 48 ≤ 140737488355328 := by omega
        clear h3 g3 Hw2 Gw2 SOw2 hsm
        obtain ⟨i0, hi, hzz⟩ := Option.map_eq_some_iff.1 info_star
        simp only [Prod.mk.injEq] at hzz
        obtain ⟨hz0, hz1, hz2⟩ := hzz
        have haw4 : Below w3.heap.size w3 (w3.alloc (Obj.cells #[.string t, .int .i64 y0, .int .i64 y1, .int .i64 y2, .int .i64 y3] 37)) := (Below.refl _ _).alloc (Nat.le_refl _) _
        have HAw4 := Lib.hid (Hw3.out.keep haw4)
        have GAw4 : Hid (w.grownBy (w3.alloc (Obj.cells #[.string t, .int .i64 y0, .int .i64 y1, .int .i64 y2, .int .i64 y3] 37)) (some g)) := Lib.hid (gq_trans Gw3.out (gq_alloc w3 _))
        have BKw4 := Lib.hid SOw3.out.blk
        have LA : B ≤ (w3.alloc (Obj.cells #[.string t, .int .i64 y0, .int .i64 y1, .int .i64 y2, .int .i64 y3] 37)).heap.size := Nat.le_trans hLB (by simp)
        clear haw4
        go_wp2_with (at_builtin; refine wpList_append_own _ rfl _ _ 27 rfl B 37 i0 (.agg #[.string ByteArray.empty, .int .i64 0, .int .i64 0, .int .i64 0, .int .i64 0]) 5 48 Tryz.underlying27 hi hz0 hz1 hz2 rfl (by decide) _ _ _ rfl (SOw3.out.alloc _) ⟨w3.heap.size, 0, none⟩ 1 1 [.string t, .int .i64 y0, .int .i64 y1, .int .i64 y2, .int .i64 y3] rfl rfl (new_cells w3 _ _) (five_one _ _ _ _ _) hm hy (Nat.le_trans hLB (by simp)) ?_; intro vw4 w4 hownw4 hgroww4 hnilw4)
        have SOw4 : Hid (SOwn w4 B vw4 (ys ++ [⟨t, y0, y1, y2, y3⟩])) := Lib.hid (SOwn.app hownw4)
        have Hw4 := Lib.hid (HAw4.out.grown hgroww4 (fun e => by have := BKw4.out _ e; omega) (fun b hb => by have := BKw4.out b hb; omega))
        have Gw4 := Lib.hid (dg_grow GAw4.out hgroww4 (fun b hb => by have := BKw4.out b hb; omega))
        have NEw4 : Hid (vw4 ≠ .slice none 0 0) := Lib.hid (fun e => by have := (hnilw4.1 e).2; omega)
        clear hnilw4
        go_ret
        exact ⟨_, ys ++ [⟨t, y0, y1, y2, y3⟩], k3, rfl, NEw4.out, SOw4.out.le (by omega), by rw [List.length_append]; show ys.length + 1 ≤ 7; omega, fun x hx => by
          rcases List.mem_append.1 hx with h | h
          · exact SM.out x h
          · rw [List.mem_singleton] at h
            subst h
            exact SX.out, by omega, Hw4.out, Gw4.out⟩
      by_cases c1 : r = 1
      · subst c1
        go_wp2_with fail
        have hbw2a : Below w1.heap.size w1 (w1.alloc (Obj.cells #[.int .i64 6, .int .i64 7] 2)) := (Below.refl _ _).alloc (Nat.le_refl _) _
        have HXw2 : Hid (∀ j, (hj : j < [(6 : Int), 7].length) → (w1.alloc (Obj.cells #[.int .i64 6, .int .i64 7] 2)).cell? ⟨w1.heap.size, j, none⟩ = some (.int .i64 [(6 : Int), 7][j])) := Lib.hid (lit_at w1 [(6 : Int), 7] 2)
        have hLw2 : w1.heap.size < (w1.alloc (Obj.cells #[.int .i64 6, .int .i64 7] 2)).heap.size := by simp
        have hLgw2 : w1.heap.size ≠ g := by have := Hw1.out.lt; omega
        have Hw2a := Lib.hid (Hw1.out.keep hbw2a)
        have Gw2a : Hid (w.grownBy (w1.alloc (Obj.cells #[.int .i64 6, .int .i64 7] 2)) (some g)) := Lib.hid (gq_trans Gw1.out (gq_alloc w1 _))
        clear hbw2a Hw1 Gw1
        generalize w1.alloc (Obj.cells #[.int .i64 6, .int .i64 7] 2) = w1a at *
        refine (among_any [(6 : Int), 7] (by simp) (by simp) IN.out hn Hw2a.out (by omega) hLgw2 hLw2 HXw2.out).mono ?_
        rintro e w2 ⟨rw2, rfl, hmw2, hw2, gw2⟩
        have Hw2 := Lib.hid hw2
        have Gw2 := Lib.hid (gq_trans Gw2a.out gw2)
        simp only [List.mem_cons, List.not_mem_nil, or_false] at hmw2
        clear hw2 HXw2 Hw2a Gw2a
        obtain ⟨m, hm2, hm7⟩ : ∃ m : Nat, rw2 = (m : Int) ∧ m ≤ 7 := ⟨rw2.toNat, by omega, by omega⟩
        subst hm2
        have LB2 : B ≤ w2.heap.size := by have := gw2.size; omega
        clear gw2 hmw2 SOw1
        go_wp2_with fail
        have ha3 : Below w2.heap.size w2 (w2.alloc (Obj.cells #[] 37)) := (Below.refl _ _).alloc (Nat.le_refl _) _
        have SO3 : Hid (SOwn (w2.alloc (Obj.cells #[] 37)) B (.slice (some ⟨w2.heap.size, 0, none⟩) 0 0) []) := Lib.hid (World.ownsRow_made w2 #[] 0 LB2 (Nat.zero_le _) rfl)
        have H3 := Lib.hid (Hw2.out.keep ha3)
        have G3 : Hid (w.grownBy (w2.alloc (Obj.cells #[] 37)) (some g)) := Lib.hid (gq_trans Gw2.out (gq_alloc w2 _))
        have LB3 : B ≤ (w2.alloc (Obj.cells #[] 37)).heap.size := by simp; omega
        clear ha3 Hw2 Gw2
        generalize w2.alloc (Obj.cells #[] 37) = w3 at *
        go_loopg [4, 7] (m + 1) (fun kx s4 s7 wr => ∃ (j : Nat) (ys : List StarV), s7 = .int .i64 (j : Int) ∧ j ≤ m ∧ kx = m + 1 - j ∧ Hid (SOwn wr B s4 ys) ∧ ys.length = j ∧ Hid (∀ x ∈ ys, x.small) ∧ Hid (SrcAt W wr g a n cap (k1 + 1 + 1)) ∧ Hid (w.grownBy wr (some g)) ∧ B ≤ wr.heap.size ∧ Hid (s4 ≠ .slice none 0 0))
        case atStart => exact ⟨0, [], rfl, Nat.zero_le _, rfl, SO3, rfl, Lib.hid (fun x hx => by cases hx), H3, G3, LB3, Lib.hid (fun e => by cases e)⟩
        case round =>
          clear SO3 H3 G3 LB3 SM
          obtain ⟨i, ys, rfl, hi7, rfl, SO, hl, SM, H, G, LB, NE⟩ := hrel
          by_cases hlt : i < m
          · have j0 : (0 : Int) ≤ (i : Int) := by omega
            have j1 : (i : Int) < (m : Int) := by omega
            have j7 : (i : Int) ≤ 7 := by omega
            go_wp2_with fail
            refine (Dsm.dec_small i (by omega) _).mono ?_
            rintro e w5 ⟨t, rfl, ht, hb5⟩
            have Hw5 := Lib.hid (H.out.keep hb5)
            have Gw5 := Lib.hid (gq_trans G.out (gq_bel (some g) hb5))
            have SOw5 := Lib.hid (SO.out.keep hb5)
            have hLB : B ≤ w5.heap.size := by have := hb5.size; omega
            have hm : ys.length + 1 ≤ maxLen := by unfold maxLen; omega
            have hy : (ys.length + 1) * 48 ≤ 140737488355328 := by omega
            have hts : (⟨#[112]⟩ ++ t : ByteArray).size ≤ 8 := by rw [ByteArray.size_append]; show 1 + t.size ≤ 8; omega
            have SX : Hid (Small (⟨#[112]⟩ ++ t) (50000 * (i : Int)) 30000 60000 500) := Lib.hid ⟨hts, by omega, by omega, by omega, by omega⟩
            clear hb5 H G SO LB
            obtain ⟨i0, hi, hzz⟩ := Option.map_eq_some_iff.1 info_star
            simp only [Prod.mk.injEq] at hzz
            obtain ⟨hz0, hz1, hz2⟩ := hzz
            have haw6 : Below w5.heap.size w5 (w5.alloc (Obj.cells #[.string (⟨#[112]⟩ ++ t), .int .i64 (50000 * (i : Int)), .int .i64 30000, .int .i64 60000, .int .i64 500] 37)) := (Below.refl _ _).alloc (Nat.le_refl _) _
            have HAw6 := Lib.hid (Hw5.out.keep haw6)
            have GAw6 : Hid (w.grownBy (w5.alloc (Obj.cells #[.string (⟨#[112]⟩ ++ t), .int .i64 (50000 * (i : Int)), .int .i64 30000, .int .i64 60000, .int .i64 500] 37)) (some g)) := Lib.hid (gq_trans Gw5.out (gq_alloc w5 _))
            have BKw6 := Lib.hid SOw5.out.blk
            have LA : B ≤ (w5.alloc (Obj.cells #[.string (⟨#[112]⟩ ++ t), .int .i64 (50000 * (i : Int)), .int .i64 30000, .int .i64 60000, .int .i64 500] 37)).heap.size := Nat.le_trans hLB (by simp)
            clear haw6
            go_wp2_with (at_builtin; refine wpList_append_own _ rfl _ _ 27 rfl B 37 i0 (.agg #[.string ByteArray.empty, .int .i64 0, .int .i64 0, .int .i64 0, .int .i64 0]) 5 48 Tryz.underlying27 hi hz0 hz1 hz2 rfl (by decide) _ _ _ rfl (SOw5.out.alloc _) ⟨w5.heap.size, 0, none⟩ 1 1 [.string (⟨#[112]⟩ ++ t), .int .i64 (50000 * (i : Int)), .int .i64 30000, .int .i64 60000, .int .i64 500] rfl rfl (new_cells w5 _ _) (five_one _ _ _ _ _) hm hy (Nat.le_trans hLB (by simp)) ?_; intro vw6 w6 hownw6 hgroww6 hnilw6)
            have SOw6 : Hid (SOwn w6 B vw6 (ys ++ [⟨⟨#[112]⟩ ++ t, 50000 * (i : Int), 30000, 60000, 500⟩])) := Lib.hid (SOwn.app hownw6)
            have Hw6 := Lib.hid (HAw6.out.grown hgroww6 (fun e => by have := BKw6.out _ e; omega) (fun b hb => by have := BKw6.out b hb; omega))
            have Gw6 := Lib.hid (dg_grow GAw6.out hgroww6 (fun b hb => by have := BKw6.out b hb; omega))
            have NEw6 : Hid (vw6 ≠ .slice none 0 0) := Lib.hid (fun e => by have := (hnilw6.1 e).2; omega)
            clear hnilw6
            go_roundg (m + 1 - (i + 1))
            case measure => omega
            case rel => exact ⟨i + 1, ys ++ [⟨⟨#[112]⟩ ++ t, 50000 * (i : Int), 30000, 60000, 500⟩], by go_num, by omega, rfl, SOw6, by rw [List.length_append]; show ys.length + 1 = _; omega, Lib.hid (fun x hx => by
              rcases List.mem_append.1 hx with h | h
              · exact SM.out x h
              · rw [List.mem_singleton] at h
                subst h
                exact SX.out), Hw6, Gw6, by have := hgroww6.size; have := LA; omega, NEw6⟩
          · have h4 : i = m := by omega
            go_wp2_with fail
            go_ret
            exact ⟨_, ys, _, rfl, NE.out, SO.out.le (by omega), by omega, SM.out, by omega, H.out, G.out⟩
      go_wp2_with fail
      go_ret
      exact ⟨_, ys, _, rfl, NE.out, SOw1.out.le (by omega), by omega, SM.out, by omega, Hw1.out, Gw1.out⟩
theorem fin_DrwD : True := trivial
end

section
open Go.RowKit
set_option linter.unusedVariables false

set_option maxRecDepth 100000 in
set_option maxHeartbeats 4000000 in
theorem drawW_any {w : World} {v : Value} {zs : List Int} (hin : BytesIn w v zs) (hn : zs.length ≤ 1048576) :
    Calls Tryz.prog 22 #[v] w fun e w' => ∃ (lg lc : Nat) (ys : List StarV) (x y : Int), e = .returned (.tuple #[.slice (some ⟨lg, 0, none⟩) ys.length lc, .int .i64 x, .int .i64 y]) ∧ Row w' lg ys ∧ ys.length ≤ 7 ∧ (∀ x ∈ ys, x.small) ∧ (-1 ≤ x ∧ x ≤ 360000) ∧ (-1 ≤ y ∧ y ≤ 90001) ∧ Below w.heap.size w w' := by
  obtain ⟨a, cap, rfl⟩ := hin.len
  have IN := Lib.hid hin
  clear hin
  go_enter Tryz.func22, Tryz.ntmps22
  go_wp2_with fail
  refine (from_any a zs.length cap w).mono ?_
  rintro e w1 ⟨rfl, h1⟩
  have H1 := Lib.hid h1
  clear h1
  go_wp2_with fail
  refine (draw10_any IN.out hn H1.out (by omega)).mono ?_
  rintro e w2 ⟨l, ys, k2, rfl, hne, hs, hl, hsm, hk2, h2, g2⟩
  have H2 := Lib.hid h2
  have SO := Lib.hid hs
  have SM := Lib.hid hsm
  have hsz : w.heap.size < w1.heap.size := H1.out.lt
  clear h2 H1 hs hsm g2
  go_wp2_with fail
  refine (spot10_any IN.out hn H2.out (by omega)).mono ?_
  rintro e w3 ⟨x, y, k3, rfl, hx, hy, hk3, h3, g3⟩
  have H3 := Lib.hid h3
  have SO3 := Lib.hid (SO.out.gb g3 hsz)
  clear h3 H2 g3 SO
  go_wp2_with fail
  go_returns
  rcases SO3.out.forms with ⟨h, _⟩ | ⟨lg, lc, h, _, _⟩
  · exact absurd h hne
  · subst h
    exact ⟨lg, lc, ys, x, y, rfl, SO3.out.row, hl, SM.out, hx, hy, H3.out.bel⟩
theorem fin_DrwE : True := trivial
end

section
open Go.RowKit
set_option linter.unusedVariables false

set_option maxHeartbeats 400000 in
theorem b10Long_no (a : Option Addr) (n ca : Nat) (w : World) (hn : n ≤ 1048576) :
    Calls Tryz.prog 21 #[.slice a n ca] w fun e w' => e = .returned (.bool false) ∧ w = w' := by
  have h1 : decide ((1048576 : Int) < (n : Int)) = false := by simp; omega
  go_enter Tryz.func21, Tryz.ntmps21
  go_wp2_with fail
  go_ret
  exact ⟨rfl, rfl⟩
set_option maxHeartbeats 400000 in
theorem b10Long_yes (a : Option Addr) (n ca : Nat) (w : World) (hn : 1048576 < n) :
    Calls Tryz.prog 21 #[.slice a n ca] w fun e w' => e = .returned (.bool true) ∧ w = w' := by
  have h1 : decide ((1048576 : Int) < (n : Int)) = true := by simp; omega
  go_enter Tryz.func21, Tryz.ntmps21
  go_wp2_with fail
  go_ret
  exact ⟨rfl, rfl⟩
theorem fin_HelpB : True := trivial
end
end Go.Proofs.YtlklcpnnaolbeaaGreatDoor
