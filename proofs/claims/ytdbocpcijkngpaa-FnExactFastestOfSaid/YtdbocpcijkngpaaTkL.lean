/-
  Tracks: as arguments, and the law's own helpers on them: szTrack, toTrack, eqTrack, markTrack, heldTrack.
-/
import Derived.Test.YtdbocpcijkngpaaKyL
import Derived.Test.YtdbocpcijkngpaaKyO
namespace Go.Proofs.Ytdbocpcijkngpaa.Tk
open Go.RowKit Go.ChangeShapes Go.WideShapes Go.Joins
open Ky (V In Own SzPost)
set_option linter.unusedVariables false

/-- A track's value. -/
def val (s : ByteArray) (u : Value) : Value := .agg #[.string s, u]
/-- A track in a block of two cells. -/
structure TAt (w : World) (b : Nat) (s : ByteArray) (u : Value) : Prop where
  c0 : w.cell? ⟨b, 0, none⟩ = some (.string s)
  c1 : w.cell? ⟨b, 1, none⟩ = some u
theorem TAt.lt {w : World} {b : Nat} {s : ByteArray} {u : Value} (h : TAt w b s u) : b < w.heap.size := World.block_lt_of_cell? w ⟨b, 0, none⟩ h.c0
theorem TAt.mod {w w' : World} {b B C : Nat} {s : ByteArray} {u : Value} (h : TAt w b s u) (hm : Mod B C w w') (hd : b < B ∨ C ≤ b) : TAt w' b s u := ⟨hm.cell h.c0 hd, hm.cell h.c1 hd⟩
theorem TAt.below {w w' : World} {b : Nat} {s : ByteArray} {u : Value} (h : TAt w b s u) (hb : Below w.heap.size w w') : TAt w' b s u := h.mod (Mod.of_below (B := b + 1) (C := b + 1) hb) (Or.inl (Nat.lt_succ_self _))
theorem TAt.new (w : World) (s : ByteArray) (u : Value) (T : TypeId) : TAt (w.alloc (.cells #[.string s, u] T)) w.heap.size s u := ⟨by simp, by simp⟩

set_option maxRecDepth 100000 in
theorem track_open {H : Type} {enc : TypeId × Value → H} {w : World} {base : Nat} {spare : Nat → Bool} {held : Bool} {r : Reach} {b0 : Nat} {v : Value} {d : DataW H} {p : List MemPlace}
    (hv : Value.okWide Try.prog w r b0 24 v) (h : DataW.Trod enc Try.prog w base spare held 24 v d p) :
    ∃ (s : ByteArray) (u : Value) (zs : List V), v = .agg #[.string s, u] ∧ s.size ≤ maxLen ∧ In w u zs ∧ zs.length ≤ 9223372036854775807 := by
  obtain ⟨v0, v1, y0, y1, n, rfl, _, _, t0, t1⟩ := Go.Joins.open_agg2 Try.underlying24 (by kernel_rfl) (by kernel_rfl) hv h
  obtain ⟨x0, e0, _, q0⟩ := DataW.trod_string Try.underlying9 t0
  obtain ⟨zs, hz, hl⟩ := Ky.open_fuel t1
  simp only [List.cons.injEq, and_true] at e0
  subst e0
  exact ⟨x0, v1, zs, rfl, q0, hz, hl⟩

set_option maxHeartbeats 1000000 in
theorem sz_any (s : ByteArray) (hs : s.size ≤ maxLen) {u : Value} {zs : List V} (l : Int) (h0 : 0 ≤ l) (h1 : l ≤ 1048576) {w : World} (h : In w u zs) (hl : zs.length ≤ 9223372036854775807) :
    Calls Try.prog 16 #[.agg #[.string s, u], .int .i64 l] w (SzPost zs l w) := by
  obtain ⟨a, cap, rfl⟩ := h.len
  have Z := Lib.hid (fun W (hB : Below w.heap.size w W) l' h0 h1 => Ky.szS_any l' h0 h1 (h.below hB) hl)
  clear h
  unfold maxLen at hs
  by_cases hn : l - (s.size : Int) < 0
  ·
    go_enter Try.func16, Try.ntmps16
    go_wp2_with fail
    go_ret
    refine ⟨-1, rfl, by omega, by omega, fun h => by omega, ?_⟩
    repeat (first | exact Below.refl _ _ | refine Below.setCell ?_ (by first | (simp; done) | omega | (simp; omega)) _ | refine Below.alloc ?_ (by first | (simp; done) | omega | (simp; omega)) _ | refine bel_drew ?_)
  ·
    go_enter Try.func16, Try.ntmps16
    go_wp2_with fail
    refine (Z.out _ (by repeat (first | exact Below.refl _ _ | refine Below.setCell ?_ (by first | (simp; done) | omega | (simp; omega)) _ | refine Below.alloc ?_ (by first | (simp; done) | omega | (simp; omega)) _ | refine bel_drew ?_)
      ) _ (by omega) (by omega)).mono ?_
    rintro e w1 ⟨z, rfl, hz0, hz1, hz2, hb1⟩
    have HB1 : Hid (Below w.heap.size w w1) := Lib.hid (by
      refine Below.trans ?_ (hb1.mono ?_)
      · repeat (first | exact Below.refl _ _ | refine Below.setCell ?_ (by first | (simp; done) | omega | (simp; omega)) _ | refine Below.alloc ?_ (by first | (simp; done) | omega | (simp; omega)) _ | refine bel_drew ?_)
      · simp)
    clear hb1
    by_cases hz : z < 0
    · clear hz2
      go_wp2_with fail
      go_ret
      exact ⟨-1, rfl, by omega, by omega, fun h => by omega, HB1.out⟩
    · have hl := hz2 (by omega)
      clear hz2
      go_wp2_with fail
      go_ret
      exact ⟨z, rfl, by omega, by omega, fun h => hl, HB1.out⟩

/-- The call returned a new copy. -/
def ToPost (s : ByteArray) (zs : List V) (w : World) (e : Ending) (w' : World) : Prop :=
  ∃ g, e = .returned (.agg #[.string s, .slice (some ⟨g, 0, none⟩) zs.length zs.length]) ∧ Own w' w.heap.size w'.heap.size (.slice (some ⟨g, 0, none⟩) zs.length zs.length) zs ∧ Below w.heap.size w w'
set_option maxHeartbeats 1000000 in
theorem to_any (s : ByteArray) {u : Value} {zs : List V} {w : World} (h : In w u zs) (hl : zs.length ≤ 1048576) :
    Calls Try.prog 18 #[.agg #[.string s, u]] w (ToPost s zs w) := by
  obtain ⟨a, cap, rfl⟩ := h.len
  have T := Lib.hid (fun W (hB : Below w.heap.size w W) => Ky.toS_any (h.below hB) hl)
  clear h
  go_enter Try.func18, Try.ntmps18
  go_wp2_with fail
  refine (T.out _ (by repeat (first | exact Below.refl _ _ | refine Below.setCell ?_ (by first | (simp; done) | omega | (simp; omega)) _ | refine Below.alloc ?_ (by first | (simp; done) | omega | (simp; omega)) _ | refine bel_drew ?_)
    )).mono ?_
  rintro e w1 ⟨g, rfl, ho, hb⟩
  have O1 := Lib.hid ho
  have hs1 := hb.size
  try simp at hs1
  clear ho
  have hsw1 := hb.size
  try simp at hsw1
  obtain ⟨hcw1, hfw1⟩ := bcell hb
  have HBw1 : Hid (Below w.heap.size w w1) := by
    apply Lib.hid
    refine Below.trans ?_ (hb.mono ?_)
    · repeat (first | exact Below.refl _ _ | refine Below.setCell ?_ (by first | (simp; done) | omega | (simp; omega)) _ | refine Below.alloc ?_ (by first | (simp; done) | omega | (simp; omega)) _)
    · first | (simp; done) | omega | (simp; omega)
  have hzw1 : w.heap.size + 2 < w1.heap.size := by have := hb.size; (try simp at this); omega
  have hyw1 : w.heap.size + 1 < w1.heap.size := by have := hb.size; (try simp at this); omega
  have hxw1 : w.heap.size < w1.heap.size := by have := hb.size; (try simp at this); omega
  clear hb
  go_wp2_with fail
  have r0 : w1.cell? ⟨w.heap.size + 1, 0, none⟩ = some (.string ByteArray.empty) := by rw [hcw1 _ _ (by simp), World.cell?_alloc_lt _ _ _ (by first | (simp; done) | (simp; omega)), World.cell?_alloc_at _ _ _ _ (by simp)]; rfl
  have r1 : w1.cell? ⟨w.heap.size + 1, 1, none⟩ = some (.slice none 0 0) := by rw [hcw1 _ _ (by simp), World.cell?_alloc_lt _ _ _ (by first | (simp; done) | (simp; omega)), World.cell?_alloc_at _ _ _ _ (by simp)]; rfl
  refine bodyPost_ret (v := .agg #[.string s, .slice (some ⟨g, 0, none⟩) zs.length zs.length]) (by simp [results, Try.results18, go_sem, r0, r1]) rfl ⟨g, rfl, ?_, ?_⟩
  · refine Own.le (Own.mod O1.out (B' := 0) (C' := w.heap.size + 3) ?_ (Or.inr (by simp))) (by simp; omega) (by simp)
    repeat (first | exact Mod.refl _ _ _ | refine Mod.setCell ?_ (by omega) (by omega) _)
  ·
    repeat (first | exact Below.refl _ _ | exact HBw1.out | refine Below.setCell ?_ (by first | (simp; done) | omega | (simp; omega)) _ | refine Below.alloc ?_ (by first | (simp; done) | omega | (simp; omega)) _ | refine bel_drew ?_)

set_option maxHeartbeats 1000000 in
theorem eqO_any (s : ByteArray) {B C B' C' : Nat} {v u : Value} {zs : List V} {w : World} (hb : zs.length ≤ 1048576) (h1 : Own w B C v zs) (h2 : Own w B' C' u zs) :
    Calls Try.prog 20 #[.agg #[.string s, v], .agg #[.string s, u]] w fun e w' => e = .returned (.bool true) ∧ Below w.heap.size w w' := by
  have E := Lib.hid (fun W (hB : Below w.heap.size w W) => Ky.eqO_any hb (h1.below hB) (h2.below hB))
  obtain ⟨a, ca, rfl⟩ := h1.len
  obtain ⟨a', ca', rfl⟩ := h2.len
  clear h1 h2
  go_enter Try.func20, Try.ntmps20
  go_wp2_with fail
  refine (E.out _ (by repeat (first | exact Below.refl _ _ | refine Below.setCell ?_ (by first | (simp; done) | omega | (simp; omega)) _ | refine Below.alloc ?_ (by first | (simp; done) | omega | (simp; omega)) _ | refine bel_drew ?_)
    )).mono ?_
  rintro e w1 ⟨rfl, hb⟩
  have hs1 := hb.size
  try simp at hs1
  have hsw1 := hb.size
  try simp at hsw1
  obtain ⟨hcw1, hfw1⟩ := bcell hb
  have HBw1 : Hid (Below w.heap.size w w1) := by
    apply Lib.hid
    refine Below.trans ?_ (hb.mono ?_)
    · repeat (first | exact Below.refl _ _ | refine Below.setCell ?_ (by first | (simp; done) | omega | (simp; omega)) _ | refine Below.alloc ?_ (by first | (simp; done) | omega | (simp; omega)) _)
    · first | (simp; done) | omega | (simp; omega)
  have hzw1 : w.heap.size + 1 < w1.heap.size := by have := hb.size; (try simp at this); omega
  have hyw1 : w.heap.size < w1.heap.size := by have := hb.size; (try simp at this); omega
  clear hb
  go_wp2_with fail
  go_ret
  exact ⟨rfl, HBw1.out⟩

set_option maxHeartbeats 1000000 in
theorem markO_any (s : ByteArray) (k0 : Nat) (hk0 : 1 ≤ k0) (hk1 : k0 ≤ 2251799813685248) {B C : Nat} {v : Value} {zs : List V} {w : World} (hb : zs.length ≤ 1048577) (h1 : Own w B C v zs) (hC : C ≤ w.heap.size) :
    Calls Try.prog 33 #[.agg #[.string s, v], .int .i64 (k0 : Int)] w fun e w' => e = .returned (.int .i64 ((k0 : Int) + 2 * (zs.length : Int))) ∧ Own w' B C v (Ky.marksS k0 zs.length) ∧ Mod B C w w' := by
  have E := Lib.hid (fun W (hB : Below w.heap.size w W) => Ky.markO_any k0 hk0 hk1 hb (h1.below hB))
  obtain ⟨a, ca, rfl⟩ := h1.len
  clear h1
  go_enter Try.func33, Try.ntmps33
  go_wp2_with fail
  refine (E.out _ (by repeat (first | exact Below.refl _ _ | refine Below.setCell ?_ (by first | (simp; done) | omega | (simp; omega)) _ | refine Below.alloc ?_ (by first | (simp; done) | omega | (simp; omega)) _ | refine bel_drew ?_)
    )).mono ?_
  rintro e w1 ⟨rfl, ho, hm⟩
  have O1 := Lib.hid ho
  have M1 : Hid (Mod B C w w1) := Lib.hid ((Mod.of_below ((Below.refl _ w).alloc (Nat.le_refl _) _)).trans hm)
  clear ho hm
  go_wp2_with fail
  go_ret
  exact ⟨rfl, O1.out, M1.out⟩

set_option maxHeartbeats 1000000 in
theorem heldO_any (s : ByteArray) (k0 : Nat) (hk0 : 1 ≤ k0) (hk1 : k0 ≤ 2251799813685248) {B C n : Nat} {v : Value} {w : World} (hb : n ≤ 1048577) (h1 : Own w B C v (Ky.marksS k0 n)) :
    Calls Try.prog 34 #[.agg #[.string s, v], .int .i64 (k0 : Int)] w fun e w' => e = .returned (.int .i64 ((k0 : Int) + 2 * (n : Int))) ∧ Below w.heap.size w w' := by
  have E := Lib.hid (fun W (hB : Below w.heap.size w W) => Ky.heldO_any k0 hk0 hk1 hb (h1.below hB))
  obtain ⟨a, ca, rfl⟩ := h1.len
  clear h1
  go_enter Try.func34, Try.ntmps34
  go_wp2_with fail
  refine (E.out _ (by repeat (first | exact Below.refl _ _ | refine Below.setCell ?_ (by first | (simp; done) | omega | (simp; omega)) _ | refine Below.alloc ?_ (by first | (simp; done) | omega | (simp; omega)) _ | refine bel_drew ?_)
    )).mono ?_
  rintro e w1 ⟨rfl, rfl⟩
  go_wp2_with fail
  go_ret
  refine ⟨rfl, ?_⟩
  repeat (first | exact Below.refl _ _ | refine Below.setCell ?_ (by first | (simp; done) | omega | (simp; omega)) _ | refine Below.alloc ?_ (by first | (simp; done) | omega | (simp; omega)) _ | refine bel_drew ?_)

theorem markO_int (s : ByteArray) (n : Int) (k0 : Nat) (hn : n = (k0 : Int)) (hk0 : 1 ≤ k0) (hk1 : k0 ≤ 2251799813685248) {B C : Nat} {v : Value} {zs : List V} {w : World} (hb : zs.length ≤ 1048577) (h1 : Own w B C v zs) (hC : C ≤ w.heap.size) :
    Calls Try.prog 33 #[.agg #[.string s, v], .int .i64 n] w fun e w' => e = .returned (.int .i64 ((k0 : Int) + 2 * (zs.length : Int))) ∧ Own w' B C v (Ky.marksS k0 zs.length) ∧ Mod B C w w' := by
  subst hn
  exact markO_any s k0 hk0 hk1 hb h1 hC
theorem heldO_int (s : ByteArray) (n : Int) (k0 : Nat) (hn : n = (k0 : Int)) (hk0 : 1 ≤ k0) (hk1 : k0 ≤ 2251799813685248) {B C m : Nat} {v : Value} {w : World} (hb : m ≤ 1048577) (h1 : Own w B C v (Ky.marksS k0 m)) :
    Calls Try.prog 34 #[.agg #[.string s, v], .int .i64 n] w fun e w' => e = .returned (.int .i64 ((k0 : Int) + 2 * (m : Int))) ∧ Below w.heap.size w w' := by
  subst hn
  exact heldO_any s k0 hk0 hk1 hb h1
end Go.Proofs.Ytdbocpcijkngpaa.Tk
