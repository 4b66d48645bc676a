/-
  Frames: a function's boxed track and its result's zero block; the results of functions that return a track and a code; l14Own, l14Done.
-/
import Derived.Test.YtdbocpcijkngpaaTkM
import Derived.Test.YtdbocpcijkngpaaKeep
import Derived.Test.YtdbocpcijkngpaaKyS
import Derived.Deep.AppendLies
namespace Go.Proofs.Ytdbocpcijkngpaa.Tk
open Go.RowKit
open Ky (V In Own Row At gk)
set_option linter.unusedVariables false

/-- The zero track. -/
def rz : Obj := (Obj.cells #[Value.string { data := #[] }, Value.slice none 0 0] 29)
/-- A world behind the prologue of a function: the track's box at w.heap.size, the result's block k behind it; else only blocks from B to C changed. -/
structure Fr (k B C : Nat) (w W : World) (s : ByteArray) (u : Value) : Prop where
  hs : w.heap.size + k < W.heap.size
  hk : 1 ≤ k
  hC : C ≤ w.heap.size
  hb : Mod B C w W
  t : TAt W w.heap.size s u
  r : W.heap[w.heap.size + k]? = some rz
theorem Fr.mod {k B C B' C' : Nat} {w W W' : World} {s : ByteArray} {u : Value} (h : Fr k B C w W s u) (hm : Mod B' C' W W') (hd : w.heap.size + k < B' ∨ (B ≤ B' ∧ C' ≤ C)) : Fr k B C w W' s u := by
  have hs := h.hs
  have hC := h.hC
  refine ⟨Nat.lt_of_lt_of_le h.hs hm.size, h.hk, h.hC, ?_, h.t.mod hm (by omega), (hm.block _ h.hs (by omega)).trans h.r⟩
  refine ⟨hm.os.trans h.hb.os, hm.tape.trans h.hb.tape, hm.output.trans h.hb.output, Nat.le_trans h.hb.size hm.size, fun i hi hc => (hm.block i (Nat.lt_of_lt_of_le hi h.hb.size) ?_).trans (h.hb.block i hi hc)⟩
  omega
theorem Fr.below {k B C : Nat} {w W W' : World} {s : ByteArray} {u : Value} (h : Fr k B C w W s u) (hb : Below W.heap.size W W') : Fr k B C w W' s u := h.mod (Mod.of_below (B := W.heap.size) (C := W.heap.size) hb) (Or.inl h.hs)
theorem Fr.set {k B C b o : Nat} {w W : World} {s : ByteArray} {u v : Value} (h : Fr k B C w W s u) (hb : w.heap.size + k < b) : Fr k B C w (W.setCell ⟨b, o, none⟩ v) s u :=
  h.mod (B' := b) (C' := b + 1) (Mod.setCell (Mod.refl _ _ _) (Nat.le_refl _) (Nat.lt_succ_self _) _) (Or.inl hb)
theorem Fr.alloc {k B C : Nat} {w W : World} {s : ByteArray} {u : Value} (h : Fr k B C w W s u) (o : Obj) : Fr k B C w (W.alloc o) s u := h.below ((Below.refl _ _).alloc (Nat.le_refl _) _)
theorem Fr.bel {k : Nat} {w W : World} {s : ByteArray} {u : Value} (h : Fr k w.heap.size w.heap.size w W s u) : Below w.heap.size w W := h.hb.below (Nat.le_refl _) (Nat.le_refl _)
theorem Fr.r0 {k B C : Nat} {w W : World} {s : ByteArray} {u : Value} (h : Fr k B C w W s u) : W.cell? ⟨w.heap.size + k, 0, none⟩ = some (.string { data := #[] }) := by simp [World.cell?, h.r, rz]
theorem Fr.r1 {k B C : Nat} {w W : World} {s : ByteArray} {u : Value} (h : Fr k B C w W s u) : W.cell? ⟨w.heap.size + k, 1, none⟩ = some (.slice none 0 0) := by simp [World.cell?, h.r, rz]
theorem Fr.f0 {k B C : Nat} {w W : World} {s : ByteArray} {u : Value} (h : Fr k B C w W s u) : W.frozen? ⟨w.heap.size + k, 0, none⟩ = false := by simp [World.frozen?, h.r, rz]
theorem Fr.f1 {k B C : Nat} {w W : World} {s : ByteArray} {u : Value} (h : Fr k B C w W s u) : W.frozen? ⟨w.heap.size + k, 1, none⟩ = false := by simp [World.frozen?, h.r, rz]
theorem fr_new (w : World) (s : ByteArray) (u : Value) (B C : Nat) (hC : C ≤ w.heap.size) : Fr 1 B C w ((w.alloc (Obj.cells #[Value.string s, u] 29)).alloc (Obj.cells #[Value.string { data := #[] }, Value.slice none 0 0] 29)) s u := by
  refine ⟨by simp, Nat.le_refl _, hC, ((Mod.refl _ _ _).alloc _).alloc _, (TAt.new w s u _).below ((Below.refl _ _).alloc (Nat.le_refl _) _), ?_⟩
  have e := heap_alloc_new (w.alloc (Obj.cells #[Value.string s, u] 29)) (Obj.cells #[Value.string { data := #[] }, Value.slice none 0 0] 29)
  rw [World.size_alloc] at e
  exact e
/-- What a function that returns a track and a code comes to. -/
def TPost (r : ByteArray × List V × Int) (w : World) (e : Ending) (w' : World) : Prop :=
  ∃ v, e = .returned (.tuple #[.agg #[.string r.1, v], .int .i64 r.2.2]) ∧ Own w' w.heap.size w'.heap.size v r.2.1 ∧ Below w.heap.size w w'
def tErr (k : Int) : ByteArray × List V × Int := ({ data := #[] }, [], k)
/-- A track, or an error if it is not valid. -/
def doneV (s : ByteArray) (zs : List V) : ByteArray × List V × Int := if trackB s zs = true then (s, zs, 0) else tErr 6
theorem keepM2 {w W W' : World} {b0 o0 b1 o1 B C : Nat} {v0 v1 : Value} (h : W.cell? ⟨b0, o0, none⟩ = some v0 ∧ W.cell? ⟨b1, o1, none⟩ = some v1 ∧ Below w.heap.size w W) (hm : Mod B C W W') (h0 : b0 < B) (h1 : b1 < B) (hB : w.heap.size ≤ B) :
    W'.cell? ⟨b0, o0, none⟩ = some v0 ∧ W'.cell? ⟨b1, o1, none⟩ = some v1 ∧ Below w.heap.size w W' :=
  ⟨hm.cell h.1 (Or.inl h0), hm.cell h.2.1 (Or.inl h1), h.2.2.trans (hm.below hB h.2.2.size)⟩
theorem doneV_len (s : ByteArray) (zs : List V) : (doneV s zs).2.1.length ≤ zs.length := by
  unfold doneV
  split
  · exact Nat.le_refl _
  · exact Nat.zero_le _

set_option maxRecDepth 100000 in
set_option maxHeartbeats 2000000 in
theorem l14Own_any (b g cap : Nat) (s : ByteArray) (zs : List V) (w : World) (hn : 0 < zs.length) (hb : zs.length ≤ 1048577) (hT : TAt w b s (.slice (some ⟨g, 0, none⟩) zs.length cap)) (h1 : Row w g zs) :
    Calls Try.prog 79 #[.pointer (some ⟨b, 0, none⟩)] w fun e w' => ∃ v, e = .returned (.agg #[.string s, v]) ∧ Own w' w.heap.size w'.heap.size v zs ∧ v ≠ .slice none 0 0 ∧ Below w.heap.size w w' := by
  have H1 := Lib.hid h1
  obtain ⟨i0, hi, hzz⟩ := Option.map_eq_some_iff.1 Ky.info_rec
  simp only [Prod.mk.injEq] at hzz
  obtain ⟨hz0, hz1, hz2⟩ := hzz
  obtain ⟨W0, hW0⟩ : ∃ W, W = w.alloc (Obj.cells #[Value.string { data := #[] }, Value.slice none 0 0] 29) := ⟨_, rfl⟩
  have hB0 : Below w.heap.size w W0 := by rw [hW0]; exact (Below.refl _ _).alloc (Nat.le_refl _) _
  have hs0 : W0.heap.size = w.heap.size + 1 := by rw [hW0]; simp
  have hR0 : W0.heap[w.heap.size]? = some rz := by rw [hW0]; exact heap_alloc_new w (Obj.cells #[Value.string { data := #[] }, Value.slice none 0 0] 29)
  obtain ⟨c0, c1⟩ := hT.below hB0
  have hbl : b < w.heap.size := hT.lt
  have HB0 := Lib.hid hB0
  have H2 := Lib.hid (h1.below hB0)
  have HR0 := Lib.hid hR0
  clear h1 hT hR0
  have BD : Below W0.heap.size W0 (W0.alloc (Obj.cells #[] 48)).drew := bel_drew ((Below.refl _ _).alloc (Nat.le_refl _) _)
  have OD0 : (W0.alloc (Obj.cells #[] 48)).drew.ownsRow W0.heap.size 48 2 (.slice (some ⟨W0.heap.size, 0, none⟩) 0 0) 0 [] :=
    ((Ky.Own.mk (zs := []) (World.ownsRow_made W0 #[] 0 (Nat.le_refl _) (Nat.zero_le _) rfl) : Own _ W0.heap.size _ _ []).below (bel_drew (Below.refl _ _))).1
  rw [hs0] at OD0
  have L1 : (Ky.flat zs).length = zs.length * 2 := Ky.flat_len zs
  have P1 := Ky.flat_one zs
  have S1 := Ky.Row.src (H2.out.below BD)
  have hm1 : 0 + zs.length ≤ maxLen := by unfold maxLen; omega
  have hy1 : (0 + zs.length) * 16 ≤ 140737488355328 := by omega
  have KC : Hid (W0.cell? ⟨b, 0, none⟩ = some (.string s) ∧ W0.cell? ⟨b, 1, none⟩ = some (.slice (some ⟨g, 0, none⟩) zs.length cap) ∧ Below w.heap.size w W0) := Lib.hid ⟨c0, c1, HB0.out⟩
  have HW := Lib.hid hW0
  clear hW0 hB0
  go_enter Try.func79, Try.ntmps79
  go_wp2_with fail
  rw [← HW.out]
  clear HW c0 c1
  refine wp_region_held_drew (S := fun W => W.cell? ⟨b, 0, none⟩ = some (.string s) ∧ W.cell? ⟨b, 1, none⟩ = some (.slice (some ⟨g, 0, none⟩) zs.length cap) ∧ Below w.heap.size w W) (by kernel_rfl) ?_ (fun hHeld => ?_)
  · exact keepW2 KC.out (drewG W0)
  refine wpAnyH_take (i := 0) rfl (by kernel_rfl) (by kernel_rfl) (by kernel_rfl) (fun _ _ _ h => h) (Or.inl ⟨by kernel_rfl, fun w hSw => by (try dsimp only at hSw); (try obtain ⟨s0, s1, s2⟩ := hSw); go_simp; (try with_reducible rfl)⟩) hHeld ?_
  try simp only [List.getElem_toArray, List.getElem_cons_zero, List.getElem_cons_succ, Act.put, List.setIfInBounds_toArray, List.set_cons_zero, List.set_cons_succ]
  refine wpAnyH_take (i := 1) rfl (by kernel_rfl) (by kernel_rfl) (by kernel_rfl) (fun _ _ _ h => h) (Or.inl ⟨by kernel_rfl, fun w hSw => by (try dsimp only at hSw); (try obtain ⟨s0, s1, s2⟩ := hSw); go_simp; (try with_reducible rfl)⟩) hHeld ?_
  try simp only [List.getElem_toArray, List.getElem_cons_zero, List.getElem_cons_succ, Act.put, List.setIfInBounds_toArray, List.set_cons_zero, List.set_cons_succ]
  refine wpAnyH_take (i := 2) rfl (by kernel_rfl) (by kernel_rfl) (by kernel_rfl) (fun _ _ _ h => h) (Or.inl ⟨by kernel_rfl, fun w hSw => by (try dsimp only at hSw); (try obtain ⟨s0, s1, s2⟩ := hSw); go_simp; (try with_reducible rfl)⟩) hHeld ?_
  try simp only [List.getElem_toArray, List.getElem_cons_zero, List.getElem_cons_succ, Act.put, List.setIfInBounds_toArray, List.set_cons_zero, List.set_cons_succ]
  refine wpAnyH_take (i := 3) rfl (by kernel_rfl) (by kernel_rfl) (by kernel_rfl) (fun _ _ _ h => h) (Or.inl ⟨by kernel_rfl, fun w hSw => by (try dsimp only at hSw); (try obtain ⟨s0, s1, s2⟩ := hSw); go_simp; (try with_reducible rfl)⟩) hHeld ?_
  try simp only [List.getElem_toArray, List.getElem_cons_zero, List.getElem_cons_succ, Act.put, List.setIfInBounds_toArray, List.set_cons_zero, List.set_cons_succ]
  refine wpAnyH_take (i := 5) rfl (by kernel_rfl) (by kernel_rfl) (by kernel_rfl) (fun _ _ _ h => h) (Or.inl ⟨by kernel_rfl, fun w hSw => by (try dsimp only at hSw); (try obtain ⟨s0, s1, s2⟩ := hSw); go_simp; (try with_reducible rfl)⟩) hHeld ?_
  try simp only [List.getElem_toArray, List.getElem_cons_zero, List.getElem_cons_succ, Act.put, List.setIfInBounds_toArray, List.set_cons_zero, List.set_cons_succ]
  refine wpAnyH_take (i := 6) rfl (by kernel_rfl) (by kernel_rfl) (by kernel_rfl) (fun _ _ _ h => h) (Or.inl ⟨by kernel_rfl, fun w hSw => by (try dsimp only at hSw); (try obtain ⟨s0, s1, s2⟩ := hSw); go_simp; (try with_reducible rfl)⟩) hHeld ?_
  try simp only [List.getElem_toArray, List.getElem_cons_zero, List.getElem_cons_succ, Act.put, List.setIfInBounds_toArray, List.set_cons_zero, List.set_cons_succ]
  refine wpAnyH_take (i := 7) rfl (by kernel_rfl) (by kernel_rfl) (by kernel_rfl) (fun _ _ _ h => h) (Or.inl ⟨by kernel_rfl, fun w hSw => by (try dsimp only at hSw); (try obtain ⟨s0, s1, s2⟩ := hSw); go_simp; (try with_reducible rfl)⟩) hHeld ?_
  try simp only [List.getElem_toArray, List.getElem_cons_zero, List.getElem_cons_succ, Act.put, List.setIfInBounds_toArray, List.set_cons_zero, List.set_cons_succ]
  refine wpAnyH_take (i := 8) rfl (by kernel_rfl) (by kernel_rfl) (by kernel_rfl) (fun _ _ _ h => h) (Or.inl ⟨by kernel_rfl, fun w hSw => by (try dsimp only at hSw); (try obtain ⟨s0, s1, s2⟩ := hSw); go_simp; (try with_reducible rfl)⟩) hHeld ?_
  try simp only [List.getElem_toArray, List.getElem_cons_zero, List.getElem_cons_succ, Act.put, List.setIfInBounds_toArray, List.set_cons_zero, List.set_cons_succ]
  refine wpAnyH_ready (rs := [4]) (by kernel_rfl) (by simp) ?_
  refine AllReadyH.cons rfl (fun KK hK => ?_) AllReadyH.nil
  go_simp
  refine hK.out _ _ ?_ (fun hH2 => ?_)
  · first | exact keepW2 KC.out BD | exact keepW2 KC.out ((drewG W0).alloc (Nat.le_refl _) _)
  clear hK KK hHeld
  try simp only [List.getElem_toArray, List.getElem_cons_zero, List.getElem_cons_succ, Act.put, List.setIfInBounds_toArray, List.set_cons_zero, List.set_cons_succ]
  refine wpAnyH_ready (rs := [9]) (by kernel_rfl) (by simp) ?_
  refine AllReadyH.cons rfl (fun KK hK => ?_) AllReadyH.nil
  refine step_append_lies _ (by rfl) _ _ _ (by rfl) (w.heap.size + 1) 48 i0 (.agg #[.int .i64 0, .int .i64 0]) 2 16 Try.underlying27 hi hz0 hz1 hz2 rfl (by decide) _ 0 [] (by rfl) OD0 ⟨g, 0, none⟩ zs.length cap (Ky.flat zs) (by rfl) L1 S1 P1 (by first | omega | exact Nat.le_refl _) hm1 hy1 (by simp; try omega) _ rfl ?_
  intro gg cap7 w5 hown' hgrow hat hlt'
  have hgB : Below W0.heap.size W0 w5 := BD.grown hgrow BD.size (fun k hk => by have := (OD0.lt k hk).1; omega)
  refine hK.out _ _ ?_ (fun hH3 => ?_)
  · exact keepW2 KC.out hgB
  clear hK KK hH2
  try simp only [List.getElem_toArray, List.getElem_cons_zero, List.getElem_cons_succ, Act.put, List.setIfInBounds_toArray, List.set_cons_zero, List.set_cons_succ]
  refine wpAnyH_take (i := 10) rfl (by kernel_rfl) (by kernel_rfl) (by kernel_rfl) (fun _ _ _ h => h) (Or.inl ⟨by kernel_rfl, fun w hSw => by (try dsimp only at hSw); (try obtain ⟨s0, s1, s2⟩ := hSw); go_simp; (try with_reducible rfl)⟩) hH3 ?_
  try simp only [List.getElem_toArray, List.getElem_cons_zero, List.getElem_cons_succ, Act.put, List.setIfInBounds_toArray, List.set_cons_zero, List.set_cons_succ]
  have hrz := (hgB.block w.heap.size (by omega)).trans HR0.out
  have r0 : w5.cell? ⟨w.heap.size, 0, none⟩ = some (.string { data := #[] }) := by simp [World.cell?, hrz, rz]
  have r1 : w5.cell? ⟨w.heap.size, 1, none⟩ = some (.slice none 0 0) := by simp [World.cell?, hrz, rz]
  have f0 : w5.frozen? ⟨w.heap.size, 0, none⟩ = false := by simp [World.frozen?, hrz, rz]
  have f1 : w5.frozen? ⟨w.heap.size, 1, none⟩ = false := by simp [World.frozen?, hrz, rz]
  refine wpAnyH_ready (rs := [11]) (by kernel_rfl) (by simp) ?_
  refine AllReadyH.cons rfl (fun KK hK => ?_) AllReadyH.nil
  go_simp
  refine hK.out _ _ ?_ (fun hH4 => ?_)
  · exact keepM2 (B := w.heap.size) (C := w.heap.size + 1) hH3 (by repeat (first | exact Mod.refl _ _ _ | refine Mod.setCell ?_ (by omega) (by omega) _)) hbl hbl (Nat.le_refl _)
  clear hK KK
  try simp only [List.getElem_toArray, List.getElem_cons_zero, List.getElem_cons_succ, Act.put, List.setIfInBounds_toArray, List.set_cons_zero, List.set_cons_succ]
  refine wpAnyH_done (by kernel_rfl) ?_ _
  have O5 : Own w5 (w.heap.size + 1) w5.heap.size (.slice (some ⟨gg, 0, none⟩) zs.length cap7) zs := Ky.Own.mk (by simpa using hown')
  have HO5 := Lib.hid O5
  have HB5 := Lib.hid (HB0.out.trans (hgB.mono HB0.out.size))
  have e0 : 0 + zs.length = zs.length := Nat.zero_add _
  clear hH3 hH4 hgB hown' hgrow O5
  go_wp2_with fail
  refine bodyPost_ret (v := .agg #[.string s, .slice (some ⟨gg, 0, none⟩) zs.length cap7]) (by simp [results, Try.results79, go_sem, r0, r1]) rfl ⟨_, rfl, ?_, by simp, ?_⟩
  · refine Ky.Own.le (Ky.Own.mod HO5.out (B' := w.heap.size) (C' := w.heap.size + 1) ?_ (Or.inr (by omega))) (by omega) (by simp)
    repeat (first | exact Mod.refl _ _ _ | refine Mod.setCell ?_ (by omega) (by omega) _)
  ·
    repeat (first | exact Below.refl _ _ | exact HB5.out | refine Below.setCell ?_ (by first | (simp; done) | omega | (simp; omega)) _ | refine Below.alloc ?_ (by first | (simp; done) | omega | (simp; omega)) _ | refine bel_drew ?_)
/-- What l14Done answers. -/
def doneT (s : ByteArray) (u : Value) (zs : List V) : Value := if trackB s zs = true then .tuple #[.agg #[.string s, u], .int .i64 0] else .tuple #[.agg #[.string { data := #[] }, .slice none 0 0], .int .i64 6]
set_option maxRecDepth 100000 in
set_option maxHeartbeats 2000000 in
theorem l14Done_any (s : ByteArray) (g cap : Nat) (zs : List V) (w : World) (hb : zs.length ≤ 1048577) (h1 : Row w g zs) :
    Calls Try.prog 80 #[.agg #[.string s, .slice (some ⟨g, 0, none⟩) zs.length cap]] w fun e w' => e = .returned (doneT s (.slice (some ⟨g, 0, none⟩) zs.length cap) zs) ∧ Below w.heap.size w w' := by
  obtain ⟨W0, hW0⟩ : ∃ W, W = (w.alloc (Obj.cells #[Value.string s, Value.slice (some ⟨g, 0, none⟩) zs.length cap] 29)).alloc (Obj.cells #[Value.string { data := #[] }, Value.slice none 0 0] 29) := ⟨_, rfl⟩
  have F0 : Fr 1 w.heap.size w.heap.size w W0 s (.slice (some ⟨g, 0, none⟩) zs.length cap) := by rw [hW0]; exact fr_new _ _ _ _ _ (Nat.le_refl _)
  have V := Lib.hid (l14One_any w.heap.size 0 g cap s zs W0 hb F0.t.c0 F0.t.c1 (h1.below F0.bel))
  have HF0 := Lib.hid F0
  have HW := Lib.hid hW0
  clear h1 hW0 F0
  unfold doneT
  cases ho : trackB s zs with
  | false =>
    rw [if_neg (by simp)]
    rw [ho] at V
    clear ho
    go_enter Try.func80, Try.ntmps80
    go_wp2_with fail
    rw [← HW.out]
    refine V.out.mono ?_
    rintro e w1 ⟨rfl, m, rfl⟩
    have hfr := HF0.out.below (bel_dT (Below.refl _ _) m)
    have HFR := Lib.hid hfr
    have HB1 := Lib.hid hfr.bel
    obtain ⟨m0, m1⟩ := hfr.t
    have r0 := hfr.r0
    have r1 := hfr.r1
    have f0 := hfr.f0
    have f1 := hfr.f1
    clear hfr
    go_wp2_with fail
    refine bodyPost_ret (v := .tuple #[.agg #[.string { data := #[] }, .slice none 0 0], .int .i64 6]) (by simp [results, Try.results80, go_sem, r0, r1]) rfl ⟨rfl, ?_⟩
    repeat (first | exact Below.refl _ _ | exact HB1.out | refine Below.setCell ?_ (by first | (simp; done) | omega | (simp; omega)) _ | refine Below.alloc ?_ (by first | (simp; done) | omega | (simp; omega)) _ | refine bel_drew ?_)
  | true =>
    rw [if_pos rfl]
    rw [ho] at V
    clear ho
    go_enter Try.func80, Try.ntmps80
    go_wp2_with fail
    rw [← HW.out]
    refine V.out.mono ?_
    rintro e w1 ⟨rfl, m, rfl⟩
    have hfr := HF0.out.below (bel_dT (Below.refl _ _) m)
    have HFR := Lib.hid hfr
    have HB1 := Lib.hid hfr.bel
    obtain ⟨m0, m1⟩ := hfr.t
    have r0 := hfr.r0
    have r1 := hfr.r1
    have f0 := hfr.f0
    have f1 := hfr.f1
    clear hfr
    go_wp2_with fail
    refine bodyPost_ret (v := .tuple #[.agg #[.string s, .slice (some ⟨g, 0, none⟩) zs.length cap], .int .i64 0]) (by simp [results, Try.results80, go_sem, r0, r1]) rfl ⟨rfl, ?_⟩
    repeat (first | exact Below.refl _ _ | exact HB1.out | refine Below.setCell ?_ (by first | (simp; done) | omega | (simp; omega)) _ | refine Below.alloc ?_ (by first | (simp; done) | omega | (simp; omega)) _ | refine bel_drew ?_)
end Go.Proofs.Ytdbocpcijkngpaa.Tk
