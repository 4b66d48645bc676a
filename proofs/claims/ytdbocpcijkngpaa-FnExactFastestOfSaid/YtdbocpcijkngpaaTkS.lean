/-
  shifted, ShiftTrack (both packages).
-/
import Derived.Test.YtdbocpcijkngpaaTkR
namespace Go.Proofs.Ytdbocpcijkngpaa.Tk
open Go.RowKit
open Ky (V In Own Row At gk)
set_option linter.unusedVariables false

theorem fr_new2 (w : World) (s : ByteArray) (u : Value) (o : Obj) (B C : Nat) (hC : C ≤ w.heap.size) : Fr 2 B C w (((w.alloc (Obj.cells #[Value.string s, u] 29)).alloc o).alloc (Obj.cells #[Value.string { data := #[] }, Value.slice none 0 0] 29)) s u := by
  refine ⟨by simp, by omega, hC, (((Mod.refl _ _ _).alloc _).alloc _).alloc _, ((TAt.new w s u _).below ((Below.refl _ _).alloc (Nat.le_refl _) _)).below ((Below.refl _ _).alloc (Nat.le_refl _) _), ?_⟩
  have e := heap_alloc_new ((w.alloc (Obj.cells #[Value.string s, u] 29)).alloc o) (Obj.cells #[Value.string { data := #[] }, Value.slice none 0 0] 29)
  rw [World.size_alloc, World.size_alloc] at e
  exact e
set_option maxHeartbeats 1000000 in
theorem shift1_any (x0 x1 y : Int) (hx : 0 ≤ x0 ∧ x0 ≤ 7200000) (hy : -100000000 ≤ y ∧ y ≤ 100000000) (b : Nat) (w : World) (hc : w.cell? ⟨b, 0, none⟩ = some (.int .i64 y)) :
    Calls Try.prog 108 #[.agg #[.int .i64 x0, .int .i64 x1], .pointer (some ⟨b, 0, none⟩)] w fun e w' => e = .returned (.int .i64 (x0 + y)) ∧ Below w.heap.size w w' := by
  have hbl := World.block_lt_of_cell? w ⟨b, 0, none⟩ hc
  have hc1 : ∀ o : Obj, (w.alloc o).cell? ⟨b, 0, none⟩ = some (.int .i64 y) := fun o => (((Below.refl w.heap.size w).alloc (Nat.le_refl _) o).cell (p := ⟨b, 0, none⟩) hbl).trans hc
  have hs : wrap64 (x0 + y) = x0 + y := IntWalk.wrap64_in _ (by omega)
  have hs2 : IntKind.i64.wrap (x0 + y) = x0 + y := IntWalk.i64_in _ (by omega)
  go_enter Try.func108, Try.ntmps108
  go_wp2_with fail
  go_ret
  refine ⟨rfl, ?_⟩
  repeat (first | exact Below.refl _ _ | refine Below.setCell ?_ (by first | (simp; done) | omega | (simp; omega)) _ | refine Below.alloc ?_ (by first | (simp; done) | omega | (simp; omega)) _ | refine bel_drew ?_)
def shT (zs : List V) (y : Int) (j : Nat) : Int := (gk zs j).f0 + y
set_option maxRecDepth 100000 in
set_option maxHeartbeats 4000000 in
theorem shifted_any (s : ByteArray) (hs : s.size ≤ maxLen) (g cap : Nat) (zs : List V) (y : Int) (w : World) (hc : Trk zs) (hy : -100000000 ≤ y ∧ y ≤ 100000000) (h1 : Row w g zs) :
    Calls Try.prog 82 #[.agg #[.string s, .slice (some ⟨g, 0, none⟩) zs.length cap], .int .i64 y] w (TPost (doneV s (retL zs (shT zs y) zs.length)) w) := by
  obtain ⟨W0, hW0⟩ : ∃ W, W = ((w.alloc (Obj.cells #[Value.string s, Value.slice (some ⟨g, 0, none⟩) zs.length cap] 29)).alloc (Obj.cells #[.int .i64 y] 2)).alloc (Obj.cells #[Value.string { data := #[] }, Value.slice none 0 0] 29) := ⟨_, rfl⟩
  have F0 : Fr 2 w.heap.size w.heap.size w W0 s (.slice (some ⟨g, 0, none⟩) zs.length cap) := by rw [hW0]; exact fr_new2 _ _ _ _ _ _ (Nat.le_refl _)
  have hy0 : W0.cell? ⟨w.heap.size + 1, 0, none⟩ = some (.int .i64 y) := by
    rw [hW0, World.cell?_alloc_lt _ _ _ (by simp)]
    first | (simp; done) | (rw [show w.heap.size + 1 = (w.alloc (Obj.cells #[Value.string s, Value.slice (some ⟨g, 0, none⟩) zs.length cap] 29)).heap.size by simp, World.cell?_alloc_at]; rfl)
  have hl0 := World.block_lt_of_cell? W0 ⟨w.heap.size + 1, 0, none⟩ hy0
  have RT := Lib.hid (retimed_any 108 #[.pointer (some ⟨w.heap.size + 1, 0, none⟩)] (enters_of Try.func108 (by kernel_rfl) rfl) s hs g cap zs W0 W0.heap.size W0.heap.size (Nat.le_refl _) hc.n24 hc.n1 (h1.below F0.bel)
    (shT zs y) (fun _ W => W.cell? ⟨w.heap.size + 1, 0, none⟩ = some (.int .i64 y)) hy0 (fun _ W W' h hb => (hb.cell (p := ⟨w.heap.size + 1, 0, none⟩) hl0).trans h)
    (fun j W hj hW h => (shift1_any _ _ y (hc.i j hj).1 hy (w.heap.size + 1) W h).mono fun e w' ⟨he, hb⟩ => ⟨he, (hb.cell (p := ⟨w.heap.size + 1, 0, none⟩) (World.block_lt_of_cell? W ⟨w.heap.size + 1, 0, none⟩ h)).trans h, Mod.of_below hb⟩))
  obtain ⟨R, hR⟩ : ∃ R, R = doneV s (retL zs (shT zs y) zs.length) := ⟨_, rfl⟩
  rw [← hR] at RT ⊢
  have HFR := Lib.hid F0
  obtain ⟨m0, m1⟩ := F0.t
  have HW := Lib.hid hW0
  clear h1 hs hc F0 hW0 hR hl0
  go_enter Try.func82, Try.ntmps82
  go_wp2_with fail
  rw [← HW.out]
  clear HW
  go_wp2_with fail
  clear m0 m1
  refine ((RT.out).mono fun e w1 h => h.t).mono ?_
  rintro e w9 ⟨v9, rfl, ho9, hb9⟩
  have hfr := HFR.out.below hb9
  have hs8 := HFR.out.hs
  have hs9 := hb9.size
  have HB9 := Lib.hid hfr.bel
  have r0 := hfr.r0
  have r1 := hfr.r1
  have f0 := hfr.f0
  have f1 := hfr.f1
  obtain ⟨a9, c9, rfl⟩ := ho9.len
  have HO9 := Lib.hid ho9
  clear hfr hb9 ho9
  go_wp2_with fail
  refine bodyPost_ret (v := .tuple #[.agg #[.string R.1, .slice a9 R.2.1.length c9], .int .i64 R.2.2]) (by simp [results, Try.results82, go_sem, r0, r1]) rfl ⟨_, rfl, ?_, ?_⟩
  · refine Ky.Own.le (Ky.Own.mod HO9.out (B' := w.heap.size + 2) (C' := w.heap.size + 2 + 1) ?_ (Or.inr (by omega))) (by omega) (by simp)
    repeat (first | exact Mod.refl _ _ _ | refine Mod.setCell ?_ (by omega) (by omega) _)
  ·
    repeat (first | exact Below.refl _ _ | exact HB9.out | refine Below.setCell ?_ (by first | (simp; done) | omega | (simp; omega)) _ | refine Below.alloc ?_ (by first | (simp; done) | omega | (simp; omega)) _ | refine bel_drew ?_)
/-- What ShiftTrack answers. -/
def shiftV (s : ByteArray) (zs : List V) (y : Int) : ByteArray × List V × Int := if trackB s zs = true then (if inR (-7200000) 7200000 [y] = true then doneV s (retL zs (shT zs y) zs.length) else tErr 2) else tErr 1
theorem shiftV_len (s : ByteArray) (zs : List V) (y : Int) : (shiftV s zs y).2.1.length ≤ zs.length := by
  unfold shiftV
  split
  · split
    · exact Nat.le_trans (doneV_len _ _) (by rw [retL_len]; exact Nat.le_refl _)
    · exact Nat.zero_le _
  · exact Nat.zero_le _
set_option maxRecDepth 100000 in
set_option maxHeartbeats 8000000 in
theorem implShift_any (s : ByteArray) (hs : s.size ≤ maxLen) (g cap : Nat) (zs : List V) (y : Int) (w : World) (hb : zs.length ≤ 1048577) (h1 : Row w g zs) :
    Calls Try.prog 38 #[.agg #[.string s, .slice (some ⟨g, 0, none⟩) zs.length cap], .int .i64 y] w (TPost (shiftV s zs y) w) := by
  obtain ⟨W0, hW0⟩ : ∃ W, W = (w.alloc (Obj.cells #[Value.string s, Value.slice (some ⟨g, 0, none⟩) zs.length cap] 29)).alloc (Obj.cells #[Value.string { data := #[] }, Value.slice none 0 0] 29) := ⟨_, rfl⟩
  have F0 : Fr 1 w.heap.size w.heap.size w W0 s (.slice (some ⟨g, 0, none⟩) zs.length cap) := by rw [hW0]; exact fr_new _ _ _ _ _ (Nat.le_refl _)
  have V := Lib.hid (implValid_any s hs g cap zs W0 hb (h1.below F0.bel))
  have L := Lib.hid (fun b cap w hc => within1 (-7200000) 7200000 y b cap w hc)
  have SH := Lib.hid (fun (W : World) (hB : Below w.heap.size w W) hc hy => shifted_any s hs g cap zs y W hc hy (h1.below hB))
  have HF0 := Lib.hid F0
  obtain ⟨m0, m1⟩ := F0.t
  have HW := Lib.hid hW0
  clear h1 hs F0 hW0
  unfold shiftV
  cases ho : trackB s zs with
  | false =>
    rw [if_neg (by simp)]
    rw [ho] at V
    clear ho
    go_enter Try.func38, Try.ntmps38
    go_wp2_with fail
    rw [← HW.out]
    clear HW
    go_wp2_with fail
    refine V.out.mono ?_
    rintro e w1 ⟨rfl, hb1⟩
    clear m0 m1
    have hfr := HF0.out.below hb1
    have HFR := Lib.hid hfr
    have HB1 := Lib.hid hfr.bel
    obtain ⟨m0, m1⟩ := hfr.t
    have r0 := hfr.r0
    have r1 := hfr.r1
    have f0 := hfr.f0
    have f1 := hfr.f1
    clear hfr
    go_wp2_with fail
    refine bodyPost_ret (v := .tuple #[.agg #[.string { data := #[] }, .slice none 0 0], .int .i64 1]) (by simp [results, Try.results38, go_sem, r0, r1]) rfl ⟨_, rfl, Ky.Own.nil _ _ _, ?_⟩
    repeat (first | exact Below.refl _ _ | exact HB1.out | refine Below.setCell ?_ (by first | (simp; done) | omega | (simp; omega)) _ | refine Below.alloc ?_ (by first | (simp; done) | omega | (simp; omega)) _ | refine bel_drew ?_)
  | true =>
    rw [if_pos rfl]
    rw [ho] at V
    have hT := trk_of ho
    clear ho
    cases hx : inR (-7200000) 7200000 [y] with
    | false =>
      rw [hx] at L
      rw [if_neg (by simp)]
      clear hx
      go_enter Try.func38, Try.ntmps38
      go_wp2_with fail
      rw [← HW.out]
      clear HW
      go_wp2_with fail
      refine V.out.mono ?_
      rintro e w1 ⟨rfl, hb1⟩
      clear m0 m1
      obtain ⟨W2, hW2⟩ : ∃ W, W = w1.alloc (Obj.cells #[.int .i64 y] 2) := ⟨_, rfl⟩
      have hc2 : W2.cell? ⟨w1.heap.size, 0, none⟩ = some (.int .i64 y) := by rw [hW2]; simp
      have HF2 : Hid (Fr 1 w.heap.size w.heap.size w W2 s (.slice (some ⟨g, 0, none⟩) zs.length cap)) := Lib.hid (by rw [hW2]; exact (HF0.out.below hb1).alloc _)
      have HW2 := Lib.hid hW2
      clear hW2 hb1
      go_wp2_with fail
      rw [← HW2.out]
      clear HW2
      refine (L.out _ _ _ hc2).mono ?_
      rintro e w' ⟨rfl, rfl⟩
      clear hc2
      have hfr := HF2.out
      have HFR := Lib.hid hfr
      have HB1 := Lib.hid hfr.bel
      obtain ⟨m0, m1⟩ := hfr.t
      have r0 := hfr.r0
      have r1 := hfr.r1
      have f0 := hfr.f0
      have f1 := hfr.f1
      clear hfr
      go_wp2_with fail
      refine bodyPost_ret (v := .tuple #[.agg #[.string { data := #[] }, .slice none 0 0], .int .i64 2]) (by simp [results, Try.results38, go_sem, r0, r1]) rfl ⟨_, rfl, Ky.Own.nil _ _ _, ?_⟩
      repeat (first | exact Below.refl _ _ | exact HB1.out | refine Below.setCell ?_ (by first | (simp; done) | omega | (simp; omega)) _ | refine Below.alloc ?_ (by first | (simp; done) | omega | (simp; omega)) _ | refine bel_drew ?_)
    | true =>
      rw [hx] at L
      rw [if_pos rfl]
      obtain ⟨y0, y1⟩ := (inR_1 _ _ _).1 hx
      clear hx
      have SH2 := Lib.hid (fun (W : World) (hB : Below w.heap.size w W) => SH.out W hB hT ⟨by omega, by omega⟩)
      clear SH hT
      obtain ⟨R, hR⟩ : ∃ R, R = doneV s (retL zs (shT zs y) zs.length) := ⟨_, rfl⟩
      rw [← hR] at SH2 ⊢
      clear hR
      go_enter Try.func38, Try.ntmps38
      go_wp2_with fail
      rw [← HW.out]
      clear HW
      go_wp2_with fail
      refine V.out.mono ?_
      rintro e w1 ⟨rfl, hb1⟩
      clear m0 m1
      obtain ⟨W2, hW2⟩ : ∃ W, W = w1.alloc (Obj.cells #[.int .i64 y] 2) := ⟨_, rfl⟩
      have hc2 : W2.cell? ⟨w1.heap.size, 0, none⟩ = some (.int .i64 y) := by rw [hW2]; simp
      have HF2 : Hid (Fr 1 w.heap.size w.heap.size w W2 s (.slice (some ⟨g, 0, none⟩) zs.length cap)) := Lib.hid (by rw [hW2]; exact (HF0.out.below hb1).alloc _)
      have HW2 := Lib.hid hW2
      clear hW2 hb1
      go_wp2_with fail
      rw [← HW2.out]
      clear HW2
      refine (L.out _ _ _ hc2).mono ?_
      rintro e w' ⟨rfl, rfl⟩
      clear hc2
      have hfr := HF2.out
      have HFR := Lib.hid hfr
      have HB1 := Lib.hid hfr.bel
      obtain ⟨m0, m1⟩ := hfr.t
      have r0 := hfr.r0
      have r1 := hfr.r1
      have f0 := hfr.f0
      have f1 := hfr.f1
      clear hfr
      go_wp2_with fail
      clear m0 m1 r0 r1 f0 f1
      refine (SH2.out _ HB1.out).mono ?_
      rintro e w9 ⟨v9, rfl, ho9, hb9⟩
      have hfr := HFR.out.below hb9
      have hs8 := HFR.out.hs
      have hs9 := hb9.size
      have HB9 := Lib.hid hfr.bel
      have r0 := hfr.r0
      have r1 := hfr.r1
      have f0 := hfr.f0
      have f1 := hfr.f1
      obtain ⟨a9, c9, rfl⟩ := ho9.len
      have HO9 := Lib.hid ho9
      clear hfr hb9 ho9
      go_wp2_with fail
      refine bodyPost_ret (v := .tuple #[.agg #[.string R.1, .slice a9 R.2.1.length c9], .int .i64 R.2.2]) (by simp [results, Try.results38, go_sem, r0, r1]) rfl ⟨_, rfl, ?_, ?_⟩
      · refine Ky.Own.le (Ky.Own.mod HO9.out (B' := w.heap.size + 1) (C' := w.heap.size + 1 + 1) ?_ (Or.inr (by omega))) (by omega) (by simp)
        repeat (first | exact Mod.refl _ _ _ | refine Mod.setCell ?_ (by omega) (by omega) _)
      ·
        repeat (first | exact Below.refl _ _ | exact HB9.out | refine Below.setCell ?_ (by first | (simp; done) | omega | (simp; omega)) _ | refine Below.alloc ?_ (by first | (simp; done) | omega | (simp; omega)) _ | refine bel_drew ?_)
set_option maxRecDepth 100000 in
set_option maxHeartbeats 8000000 in
theorem specShift_any (s : ByteArray) (hs : s.size ≤ maxLen) (g cap : Nat) (zs : List V) (y : Int) (w : World) (hb : zs.length ≤ 1048577) (h1 : Row w g zs) :
    Calls Try.prog 37 #[.agg #[.string s, .slice (some ⟨g, 0, none⟩) zs.length cap], .int .i64 y] w (TPost (shiftV s zs y) w) := by
  obtain ⟨W0, hW0⟩ : ∃ W, W = (w.alloc (Obj.cells #[Value.string s, Value.slice (some ⟨g, 0, none⟩) zs.length cap] 29)).alloc (Obj.cells #[Value.string { data := #[] }, Value.slice none 0 0] 29) := ⟨_, rfl⟩
  have F0 : Fr 1 w.heap.size w.heap.size w W0 s (.slice (some ⟨g, 0, none⟩) zs.length cap) := by rw [hW0]; exact fr_new _ _ _ _ _ (Nat.le_refl _)
  have V := Lib.hid (l14One_any w.heap.size 0 g cap s zs W0 hb F0.t.c0 F0.t.c1 (h1.below F0.bel))
  have OW := Lib.hid (fun (W : World) (hB : Below w.heap.size w W) hn hT => l14Own_any w.heap.size g cap s zs W hn hb hT (h1.below hB))
  have DN := Lib.hid (fun h hcp zs' (W : World) hb hR => l14Done_any s h hcp zs' W hb hR)
  have L := Lib.hid (fun w => l00In_any y (-7200000) 7200000 w)
  have HF0 := Lib.hid F0
  obtain ⟨m0, m1⟩ := F0.t
  have HW := Lib.hid hW0
  clear h1 hs F0 hW0
  unfold shiftV
  cases ho : trackB s zs with
  | false =>
    rw [if_neg (by simp)]
    rw [ho] at V
    clear ho
    go_enter Try.func37, Try.ntmps37
    go_wp2_with fail
    rw [← HW.out]
    clear HW
    go_wp2_with fail
    refine V.out.mono ?_
    rintro e w1 ⟨rfl, m, hm⟩
    have hb1 : Below W0.heap.size W0 w1 := by rw [hm]; exact bel_dT (Below.refl _ _) m
    clear m0 m1 hm
    have hfr := HF0.out.below hb1
    have HFR := Lib.hid hfr
    have HB1 := Lib.hid hfr.bel
    obtain ⟨m0, m1⟩ := hfr.t
    have r0 := hfr.r0
    have r1 := hfr.r1
    have f0 := hfr.f0
    have f1 := hfr.f1
    clear hfr
    go_wp2_with fail
    refine bodyPost_ret (v := .tuple #[.agg #[.string { data := #[] }, .slice none 0 0], .int .i64 1]) (by simp [results, Try.results37, go_sem, r0, r1]) rfl ⟨_, rfl, Ky.Own.nil _ _ _, ?_⟩
    repeat (first | exact Below.refl _ _ | exact HB1.out | refine Below.setCell ?_ (by first | (simp; done) | omega | (simp; omega)) _ | refine Below.alloc ?_ (by first | (simp; done) | omega | (simp; omega)) _ | refine bel_drew ?_)
  | true =>
    rw [if_pos rfl]
    rw [ho] at V
    have hT := trk_of ho
    clear ho
    cases hx0 : inR (-7200000) 7200000 [y] with
    | false =>
      rw [hx0] at L
      rw [if_neg (by simp)]
      clear hx0
      go_enter Try.func37, Try.ntmps37
      go_wp2_with fail
      rw [← HW.out]
      clear HW
      go_wp2_with fail
      refine V.out.mono ?_
      rintro e w1 ⟨rfl, m, hm⟩
      have hb1 : Below W0.heap.size W0 w1 := by rw [hm]; exact bel_dT (Below.refl _ _) m
      clear m0 m1 hm
      have hfr := HF0.out.below hb1
      have HFR := Lib.hid hfr
      have HB1 := Lib.hid hfr.bel
      obtain ⟨m0, m1⟩ := hfr.t
      have r0 := hfr.r0
      have r1 := hfr.r1
      have f0 := hfr.f0
      have f1 := hfr.f1
      clear hfr
      clear hb1
      go_wp2_with fail
      refine (L.out _).mono ?_
      rintro e w' ⟨rfl, rfl⟩
      go_wp2_with fail
      refine bodyPost_ret (v := .tuple #[.agg #[.string { data := #[] }, .slice none 0 0], .int .i64 2]) (by simp [results, Try.results37, go_sem, r0, r1]) rfl ⟨_, rfl, Ky.Own.nil _ _ _, ?_⟩
      repeat (first | exact Below.refl _ _ | exact HB1.out | refine Below.setCell ?_ (by first | (simp; done) | omega | (simp; omega)) _ | refine Below.alloc ?_ (by first | (simp; done) | omega | (simp; omega)) _ | refine bel_drew ?_)
    | true =>
      rw [hx0] at L
      rw [if_pos rfl]
      obtain ⟨y0, y1⟩ := (inR_1 _ _ _).1 hx0
      clear hx0
      have IL := Lib.hid (rtT_len zs (shT zs y))
      have IS := Lib.hid (rtT_set zs (shT zs y))
      have IG := Lib.hid (rtT_get zs (shT zs y))
      have IAt := Lib.hid (rtT_at zs (shT zs y))
      have IA := Lib.hid (rtT_all zs (shT zs y))
      have I0 := rtT_zero zs (shT zs y)
      have RL := retL_len zs (shT zs y) zs.length
      have n1 := hT.n1
      have n24 := hT.n24
      have KI := Lib.hid hT.i
      clear hT
      obtain ⟨RR, hRR⟩ : ∃ L, L = retL zs (shT zs y) zs.length := ⟨_, rfl⟩
      rw [← hRR] at IA RL ⊢
      clear hRR
      obtain ⟨M, hM⟩ : ∃ M, M = rtT zs (shT zs y) := ⟨_, rfl⟩
      rw [← hM] at IL IS IG IAt IA I0
      clear hM
      go_enter Try.func37, Try.ntmps37
      go_wp2_with fail
      rw [← HW.out]
      clear HW
      go_wp2_with fail
      refine V.out.mono ?_
      rintro e w1 ⟨rfl, m, hm⟩
      have hb1 : Below W0.heap.size W0 w1 := by rw [hm]; exact bel_dT (Below.refl _ _) m
      clear m0 m1 hm
      have hfr := HF0.out.below hb1
      have HFR := Lib.hid hfr
      have HB1 := Lib.hid hfr.bel
      obtain ⟨m0, m1⟩ := hfr.t
      have r0 := hfr.r0
      have r1 := hfr.r1
      have f0 := hfr.f0
      have f1 := hfr.f1
      clear hfr
      clear hb1
      go_wp2_with fail
      refine (L.out _).mono ?_
      rintro e w' ⟨rfl, rfl⟩
      go_wp2_with fail
      have hsw := HFR.out.hs
      refine (OW.out _ HB1.out n1 ⟨m0, m1⟩).mono ?_
      rintro e w2 ⟨v2, rfl, ho2, hn2, hb2⟩
      obtain ⟨h, hcp, rfl, hh1, hh2⟩ : ∃ h hcp, v2 = .slice (some ⟨h, 0, none⟩) zs.length hcp ∧ w1.heap.size ≤ h ∧ h < w2.heap.size := by
        rcases ho2.forms with ⟨e, _⟩ | ⟨h, c, e, e1, e2, _⟩
        · exact absurd e hn2
        · exact ⟨h, c, e, e1, e2⟩
      have hs2 := hb2.size
      obtain ⟨W3, hW3⟩ : ∃ W, W = w2.alloc (Obj.cells #[Value.string s, .slice (some ⟨h, 0, none⟩) zs.length hcp] 29) := ⟨_, rfl⟩
      have hb3 : Below w2.heap.size w2 W3 := by rw [hW3]; exact (Below.refl _ _).alloc (Nat.le_refl _) _
      have hs3 := hb3.size
      have T3 : Hid (TAt W3 w2.heap.size s (.slice (some ⟨h, 0, none⟩) zs.length hcp)) := Lib.hid (by rw [hW3]; exact TAt.new _ _ _ _)
      have F3 := Lib.hid ((HFR.out.below hb2).below hb3)
      obtain ⟨CC, hCC⟩ : ∃ C, C = w2.heap.size := ⟨_, rfl⟩
      have O3 := (ho2.below hb3).le (B := w.heap.size + 2) (by omega) (Nat.le_refl _)
      rw [← hCC] at hh2 O3 T3
      have M0 : Hid (Own W3 (w.heap.size + 2) CC (.slice (some ⟨h, 0, none⟩) zs.length hcp) (M 0)) := Lib.hid (by rw [I0]; exact O3)
      have hh3 : w.heap.size + 2 ≤ h := by omega
      have hz3 : CC < W3.heap.size := by have := T3.out.lt; omega
      have HW3 := Lib.hid hW3
      clear hn2 ho2 O3 I0 hb2 hb3 hW3 m0 m1 r0 r1 f0 f1 hs2 hs3 hh1
      go_wp2_with fail
      rw [← HW3.out]
      clear HW3
      have H_CC := Lib.hid hCC
      rw [← hCC]
      clear hCC
      go_loopg [7] (zs.length + 1) (fun kx s7 wr => ∃ j : Nat, s7 = .int .i64 (j : Int) ∧ j ≤ zs.length ∧ kx = zs.length + 1 - j ∧ Hid (Own wr (w.heap.size + 2) CC (.slice (some ⟨h, 0, none⟩) zs.length hcp) (M j)) ∧ Hid (Fr 1 w.heap.size w.heap.size w wr s (.slice (some ⟨g, 0, none⟩) zs.length cap)) ∧ Hid (TAt wr CC s (.slice (some ⟨h, 0, none⟩) zs.length hcp)) ∧ CC < wr.heap.size)
      case atStart => exact ⟨0, rfl, Nat.zero_le _, rfl, M0, F3, T3, hz3⟩
      case round =>
        obtain ⟨j, rfl, hj, rfl, HO, HFW, HT, hcw⟩ := hrel
        obtain ⟨t0, t1⟩ := HT.out
        by_cases hlt : j < zs.length
        · have j0 : (0 : Int) ≤ (j : Int) := by omega
          have j1 : (j : Int) < (zs.length : Int) := by omega
          have hml := IL.out j hj
          have hat := HO.out.at j (by omega)
          rw [IG.out j hlt (by omega)] at hat
          have hms := IS.out j hlt
          have hma := IAt.out j hlt
          have ki := (KI.out j hlt).1
          obtain ⟨c0, c1⟩ := hat
          have hO := HO.out
          rw [← hma] at hO
          have hwr := HFW.out.hs
          have g0 := hO.free (j * 2)
          rw [Ky.gk_at zs j hlt] at ki
          have hTj : shT zs y j = zs[j].f0 + y := by unfold shT; rw [Ky.gk_at zs j hlt]
          generalize zs[j] = x at *
          obtain ⟨x0, x1⟩ := x
          simp only at c0 c1 hms ki
          rw [hTj] at hms
          have wk1 : wrap64 (x0 + y) = x0 + y := IntWalk.wrap64_in _ (by omega)
          have wk2 : IntKind.i64.wrap (x0 + y) = x0 + y := IntWalk.i64_in _ (by omega)
          have hP := Ky.Own.put0 hO (by rw [hml]; exact hlt) (x0 + y)
          rw [hms] at hP
          have PU := Lib.hid hP
          have PF := Lib.hid (HFW.out.set (b := h) (o := j * 2) (v := .int .i64 (x0 + y)) (by omega))
          have PT := Lib.hid (HT.out.mod (B := h) (C := h + 1) (Mod.setCell (o := j * 2) (Mod.refl _ _ wr) (Nat.le_refl _) (Nat.lt_succ_self _) (.int .i64 (x0 + y))) (Or.inr (by omega)))
          have hz5 : CC < (wr.setCell ⟨h, j * 2, none⟩ (.int .i64 (x0 + y))).heap.size := by simp [World.setCell]; omega
          have HZ := Lib.hid hz5
          clear hP hz5 hO hms hma hml
          go_wp2_with fail
          go_roundg (zs.length + 1 - (j + 1))
          case measure => omega
          case rel => exact ⟨j + 1, by go_num, by omega, by omega, PU, PF, PT, HZ.out⟩
        · obtain rfl : j = zs.length := by omega
          have hO := HO.out
          rw [IA.out] at hO
          have hRW := hO.row
          rw [← RL] at hO
          have DN2 := Lib.hid (DN.out h hcp RR wr (by omega) hRW)
          rw [RL] at DN2 hO
          have HO2 := Lib.hid hO
          have hwr := HFW.out.hs
          clear hO hRW DN
          unfold doneT at DN2
          cases ho : trackB s RR with
          | false =>
            have HD : Hid (doneV s RR = tErr 6) := Lib.hid (by unfold doneV; rw [if_neg (by rw [ho]; simp)])
            rw [if_neg (by rw [ho]; simp)] at DN2
            clear ho
            go_wp2_with fail
            refine (DN2.out).mono ?_
            rintro e w6 ⟨rfl, hb6⟩
            clear t0 t1
            have hfr := HFW.out.below hb6
            have HFR := Lib.hid hfr
            have HB1 := Lib.hid hfr.bel
            obtain ⟨m0, m1⟩ := hfr.t
            have r0 := hfr.r0
            have r1 := hfr.r1
            have f0 := hfr.f0
            have f1 := hfr.f1
            clear hfr
            go_wp2_with fail
            refine bodyPost_ret (v := .tuple #[.agg #[.string { data := #[] }, .slice none 0 0], .int .i64 6]) (by simp [results, Try.results37, go_sem, r0, r1]) rfl ⟨_, by rw [HD.out]; rfl, by rw [HD.out]; exact Ky.Own.nil _ _ _, ?_⟩
            repeat (first | exact Below.refl _ _ | exact HB1.out | refine Below.setCell ?_ (by first | (simp; done) | omega | (simp; omega)) _ | refine Below.alloc ?_ (by first | (simp; done) | omega | (simp; omega)) _ | refine bel_drew ?_)
          | true =>
            have HD : Hid (doneV s RR = (s, RR, 0)) := Lib.hid (by unfold doneV; rw [if_pos ho])
            rw [if_pos ho] at DN2
            clear ho
            go_wp2_with fail
            refine (DN2.out).mono ?_
            rintro e w6 ⟨rfl, hb6⟩
            have HO6 := Lib.hid (HO2.out.below hb6)
            have hs6 := hb6.size
            clear t0 t1
            have hfr := HFW.out.below hb6
            have HFR := Lib.hid hfr
            have HB1 := Lib.hid hfr.bel
            obtain ⟨m0, m1⟩ := hfr.t
            have r0 := hfr.r0
            have r1 := hfr.r1
            have f0 := hfr.f0
            have f1 := hfr.f1
            clear hfr
            go_wp2_with fail
            refine bodyPost_ret (v := .tuple #[.agg #[.string s, .slice (some ⟨h, 0, none⟩) zs.length hcp], .int .i64 0]) (by simp [results, Try.results37, go_sem, r0, r1]) rfl ⟨_, by rw [HD.out], ?_, ?_⟩
            · rw [HD.out]
              refine Ky.Own.le (Ky.Own.mod HO6.out (B' := w.heap.size + 1) (C' := w.heap.size + 2) ?_ (Or.inr (Nat.le_refl _))) (by omega) (by simp; omega)
              repeat (first | exact Mod.refl _ _ _ | refine Mod.setCell ?_ (by omega) (by omega) _)
            ·
              repeat (first | exact Below.refl _ _ | exact HB1.out | refine Below.setCell ?_ (by first | (simp; done) | omega | (simp; omega)) _ | refine Below.alloc ?_ (by first | (simp; done) | omega | (simp; omega)) _ | refine bel_drew ?_)
end Go.Proofs.Ytdbocpcijkngpaa.Tk
