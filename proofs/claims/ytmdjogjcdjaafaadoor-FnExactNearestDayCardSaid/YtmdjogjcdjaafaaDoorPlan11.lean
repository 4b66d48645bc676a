/-
  The day on which two planets are nearest: the contract of NearestDay (package impl).
-/
import Derived.Test.YtmdjogjcdjaafaaDoorPlan10
import Derived.Deep.CutBlock
namespace Go.Proofs.YtmdjogjcdjaafaaDoor
open Go.RowKit
set_option linter.unusedVariables false

theorem ndS_neg (A1 A2 N : Nat → Int) : ∀ k, (ndS A1 A2 N k).1 < 0 → (ndS A1 A2 N k).2 = 0 := by
  intro k
  induction k with
  | zero => intro _; rfl
  | succ k ih =>
    intro h
    have e := ndS_at A1 A2 N k _ _ rfl
    rw [e] at h ⊢
    split at h
    · split at h
      · simp only at h; omega
      · rename_i h1 h2
        rw [if_pos h1, if_neg h2]
        exact ih h
    · rename_i h1
      rw [if_neg h1]
      exact ih h
theorem NA.cells {w W : World} {s : ByteArray} {a b c : Int} {t : ByteArray} {x y z : Int} {u : ByteArray} {i j l d m : Int} (k : NA w s a b c t x y z u i j l d m W) : W.cell? ⟨w.heap.size, 0, none⟩ = some (.string s) ∧ W.cell? ⟨w.heap.size, 1, none⟩ = some (.int .i64 a) ∧ W.cell? ⟨w.heap.size, 2, none⟩ = some (.int .i64 b) ∧ W.cell? ⟨w.heap.size, 3, none⟩ = some (.int .i64 c) ∧ W.cell? ⟨w.heap.size + 1, 0, none⟩ = some (.string t) ∧ W.cell? ⟨w.heap.size + 1, 1, none⟩ = some (.int .i64 x) ∧ W.cell? ⟨w.heap.size + 1, 2, none⟩ = some (.int .i64 y) ∧ W.cell? ⟨w.heap.size + 1, 3, none⟩ = some (.int .i64 z) ∧ W.cell? ⟨w.heap.size + 1 + 1, 0, none⟩ = some (.string u) ∧ W.cell? ⟨w.heap.size + 1 + 1, 1, none⟩ = some (.int .i64 i) ∧ W.cell? ⟨w.heap.size + 1 + 1, 2, none⟩ = some (.int .i64 j) ∧ W.cell? ⟨w.heap.size + 1 + 1, 3, none⟩ = some (.int .i64 l) ∧ W.cell? ⟨w.heap.size + 1 + 1 + 1, 0, none⟩ = some (.int .i64 d) ∧ W.cell? ⟨w.heap.size + 1 + 1 + 1, 1, none⟩ = some (.int .i64 m) :=
  ⟨k.1.c0, k.1.c1, k.1.c2, k.1.c3, k.2.1.c0, k.2.1.c1, k.2.1.c2, k.2.1.c3, k.2.2.1.c0, k.2.2.1.c1, k.2.2.1.c2, k.2.2.1.c3, k.2.2.2.1.c0, k.2.2.2.1.c1⟩
theorem NA.keep {w wr W : World} {s : ByteArray} {a b c : Int} {t : ByteArray} {x y z : Int} {u : ByteArray} {i j l d m : Int} (k : NA w s a b c t x y z u i j l d m wr) (hb : Below wr.heap.size wr W) : W.cell? ⟨w.heap.size, 0, none⟩ = some (.string s) ∧ W.cell? ⟨w.heap.size, 1, none⟩ = some (.int .i64 a) ∧ W.cell? ⟨w.heap.size, 2, none⟩ = some (.int .i64 b) ∧ W.cell? ⟨w.heap.size, 3, none⟩ = some (.int .i64 c) ∧ W.cell? ⟨w.heap.size + 1, 0, none⟩ = some (.string t) ∧ W.cell? ⟨w.heap.size + 1, 1, none⟩ = some (.int .i64 x) ∧ W.cell? ⟨w.heap.size + 1, 2, none⟩ = some (.int .i64 y) ∧ W.cell? ⟨w.heap.size + 1, 3, none⟩ = some (.int .i64 z) ∧ W.cell? ⟨w.heap.size + 1 + 1, 0, none⟩ = some (.string u) ∧ W.cell? ⟨w.heap.size + 1 + 1, 1, none⟩ = some (.int .i64 i) ∧ W.cell? ⟨w.heap.size + 1 + 1, 2, none⟩ = some (.int .i64 j) ∧ W.cell? ⟨w.heap.size + 1 + 1, 3, none⟩ = some (.int .i64 l) ∧ W.cell? ⟨w.heap.size + 1 + 1 + 1, 0, none⟩ = some (.int .i64 d) ∧ W.cell? ⟨w.heap.size + 1 + 1 + 1, 1, none⟩ = some (.int .i64 m) ∧ Below wr.heap.size wr W := by
  obtain ⟨h0, h1, h2, h3, h4, h5, h6, h7, h8, h9, h10, h11, h12, h13⟩ := (k.on hb).cells
  exact ⟨h0, h1, h2, h3, h4, h5, h6, h7, h8, h9, h10, h11, h12, h13, hb⟩

set_option maxRecDepth 100000 in
set_option maxHeartbeats 8000000 in
theorem implNearestDay_any (s : ByteArray) (a b c : Int) (t : ByteArray) (x y z : Int) (u : ByteArray) (i j l d m : Int) (n : Int) (smax : s.size ≤ maxLen) (tmax : t.size ≤ maxLen) (umax : u.size ≤ maxLen) (w : World) (hs : SinesOK w) :
    Calls Tryd.prog 26 #[.agg #[.string s, .int .i64 a, .int .i64 b, .int .i64 c], .agg #[.string t, .int .i64 x, .int .i64 y, .int .i64 z], .agg #[.string u, .int .i64 i, .int .i64 j, .int .i64 l], .agg #[.int .i64 d, .int .i64 m], .int .i64 n] w fun e w' => e = .returned (ndV s a b c t x y z u i j l d m n) ∧ Below w.heap.size w w' := by
  unfold ndV
  have I1 := Lib.hid (fun w => validPlanet_any s a b c smax w)
  have I2 := Lib.hid (fun w => validPlanet_any t x y z tmax w)
  have I3 := Lib.hid (fun w => validPlanet_any u i j l umax w)
  have J := Lib.hid (fun w => valid_any d m w)
  have E := Lib.hid hs
  have BO0 : Hid (∀ (k : Nat) (W : World) (g : Nat), SinesOK W → Mo W g (d + (k : Int)) m → Calls Tryd.prog 56 #[.agg #[.string s, .int .i64 a, .int .i64 b, .int .i64 c, .string u, .int .i64 i, .int .i64 j, .int .i64 l, .string t, .int .i64 x, .int .i64 y, .int .i64 z, .string u, .int .i64 i, .int .i64 j, .int .i64 l], .func (.func 76) #[] #[.pointer (some ⟨g, 0, none⟩)]] W fun e w' => e = .returned (bothV (seeR s a b c u i j l (d + (k : Int)) m) (askP s a b c u i j l (d + (k : Int)) m) (seeR t x y z u i j l (d + (k : Int)) m) (askP t x y z u i j l (d + (k : Int)) m)) ∧ Below W.heap.size W w') := Lib.hid (fun k W g hs hm =>
    bothW_any g s a b c t x y z u i j l _ _ _ _ W (fun W' hb => anglesIn_any g s a b c u i j l (d + (k : Int)) m smax umax W' (hs.below hb) (hm.below hb)) (fun W' hb => anglesIn_any g t x y z u i j l (d + (k : Int)) m tmax umax W' (hs.below hb) (hm.below hb)))
  clear hs smax tmax umax
  cases hp : planetB s a b c with
  | false =>
    rw [if_neg (by simp)]
    rw [hp] at I1
    clear hp BO0
    obtain ⟨W0, hW0⟩ : ∃ W0, W0 = fourW w s a b c t x y z u i j l d m := ⟨_, rfl⟩
    have N0 : Hid (NA w s a b c t x y z u i j l d m W0) := Lib.hid (by rw [hW0]; exact NA.start _ s a b c t x y z u i j l d m)
    unfold fourW at hW0
    have HW := Lib.hid hW0
    clear hW0
    go_enter Tryd.func26, Tryd.ntmps26
    obtain ⟨k0, k1, k2, k3, k4, k5, k6, k7, k8, k9, k10, k11, k12, k13⟩ := N0.out.cells
    go_wp2_with fail
    rw [← HW.out]
    clear HW
    refine (I1.out _).mono ?_
    rintro e w1 ⟨rfl, hb⟩
    have N1 := Lib.hid (N0.out.on hb)
    clear hb N0 k0 k1 k2 k3 k4 k5 k6 k7 k8 k9 k10 k11 k12 k13
    obtain ⟨k0, k1, k2, k3, k4, k5, k6, k7, k8, k9, k10, k11, k12, k13⟩ := N1.out.cells
    go_wp2_with fail
    have HB := Lib.hid N1.out.2.2.2.2
    refine bodyPost_ret (v := .tuple #[.int .i64 0, .int .i64 0, .int .i64 1]) (by first | (simp [results, Tryd.results26, go_sem]; done) | (simp [results, Tryd.results26, go_sem, *]; done)) rfl ⟨rfl, ?_⟩
    repeat (first | exact Below.refl _ _ | exact HB.out | refine Below.setCell ?_ (by first | (simp; done) | omega | (simp; omega)) _ | refine Below.alloc ?_ (by first | (simp; done) | omega | (simp; omega)) _ | refine bel_drew ?_)
  | true =>
    rw [hp] at I1
    cases hq : planetB t x y z with
    | false =>
      rw [if_neg (by simp)]
      rw [hq] at I2
      clear hp hq BO0
      obtain ⟨W0, hW0⟩ : ∃ W0, W0 = fourW w s a b c t x y z u i j l d m := ⟨_, rfl⟩
      have N0 : Hid (NA w s a b c t x y z u i j l d m W0) := Lib.hid (by rw [hW0]; exact NA.start _ s a b c t x y z u i j l d m)
      unfold fourW at hW0
      have HW := Lib.hid hW0
      clear hW0
      go_enter Tryd.func26, Tryd.ntmps26
      obtain ⟨k0, k1, k2, k3, k4, k5, k6, k7, k8, k9, k10, k11, k12, k13⟩ := N0.out.cells
      go_wp2_with fail
      rw [← HW.out]
      clear HW
      refine (I1.out _).mono ?_
      rintro e w1 ⟨rfl, hb⟩
      have N1 := Lib.hid (N0.out.on hb)
      clear hb N0 k0 k1 k2 k3 k4 k5 k6 k7 k8 k9 k10 k11 k12 k13
      obtain ⟨k0, k1, k2, k3, k4, k5, k6, k7, k8, k9, k10, k11, k12, k13⟩ := N1.out.cells
      go_wp2_with fail
      refine (I2.out _).mono ?_
      rintro e w2 ⟨rfl, hb⟩
      have N2 := Lib.hid (N1.out.on hb)
      clear hb N1 k0 k1 k2 k3 k4 k5 k6 k7 k8 k9 k10 k11 k12 k13
      obtain ⟨k0, k1, k2, k3, k4, k5, k6, k7, k8, k9, k10, k11, k12, k13⟩ := N2.out.cells
      go_wp2_with fail
      have HB := Lib.hid N2.out.2.2.2.2
      refine bodyPost_ret (v := .tuple #[.int .i64 0, .int .i64 0, .int .i64 1]) (by first | (simp [results, Tryd.results26, go_sem]; done) | (simp [results, Tryd.results26, go_sem, *]; done)) rfl ⟨rfl, ?_⟩
      repeat (first | exact Below.refl _ _ | exact HB.out | refine Below.setCell ?_ (by first | (simp; done) | omega | (simp; omega)) _ | refine Below.alloc ?_ (by first | (simp; done) | omega | (simp; omega)) _ | refine bel_drew ?_)
    | true =>
      rw [hq] at I2
      cases hf : planetB u i j l with
      | false =>
        rw [if_neg (by simp)]
        rw [hf] at I3
        clear hp hq hf BO0
        obtain ⟨W0, hW0⟩ : ∃ W0, W0 = fourW w s a b c t x y z u i j l d m := ⟨_, rfl⟩
        have N0 : Hid (NA w s a b c t x y z u i j l d m W0) := Lib.hid (by rw [hW0]; exact NA.start _ s a b c t x y z u i j l d m)
        unfold fourW at hW0
        have HW := Lib.hid hW0
        clear hW0
        go_enter Tryd.func26, Tryd.ntmps26
        obtain ⟨k0, k1, k2, k3, k4, k5, k6, k7, k8, k9, k10, k11, k12, k13⟩ := N0.out.cells
        go_wp2_with fail
        rw [← HW.out]
        clear HW
        refine (I1.out _).mono ?_
        rintro e w1 ⟨rfl, hb⟩
        have N1 := Lib.hid (N0.out.on hb)
        clear hb N0 k0 k1 k2 k3 k4 k5 k6 k7 k8 k9 k10 k11 k12 k13
        obtain ⟨k0, k1, k2, k3, k4, k5, k6, k7, k8, k9, k10, k11, k12, k13⟩ := N1.out.cells
        go_wp2_with fail
        refine (I2.out _).mono ?_
        rintro e w2 ⟨rfl, hb⟩
        have N2 := Lib.hid (N1.out.on hb)
        clear hb N1 k0 k1 k2 k3 k4 k5 k6 k7 k8 k9 k10 k11 k12 k13
        obtain ⟨k0, k1, k2, k3, k4, k5, k6, k7, k8, k9, k10, k11, k12, k13⟩ := N2.out.cells
        go_wp2_with fail
        refine (I3.out _).mono ?_
        rintro e w3 ⟨rfl, hb⟩
        have N3 := Lib.hid (N2.out.on hb)
        clear hb N2 k0 k1 k2 k3 k4 k5 k6 k7 k8 k9 k10 k11 k12 k13
        obtain ⟨k0, k1, k2, k3, k4, k5, k6, k7, k8, k9, k10, k11, k12, k13⟩ := N3.out.cells
        go_wp2_with fail
        have HB := Lib.hid N3.out.2.2.2.2
        refine bodyPost_ret (v := .tuple #[.int .i64 0, .int .i64 0, .int .i64 1]) (by first | (simp [results, Tryd.results26, go_sem]; done) | (simp [results, Tryd.results26, go_sem, *]; done)) rfl ⟨rfl, ?_⟩
        repeat (first | exact Below.refl _ _ | exact HB.out | refine Below.setCell ?_ (by first | (simp; done) | omega | (simp; omega)) _ | refine Below.alloc ?_ (by first | (simp; done) | omega | (simp; omega)) _ | refine bel_drew ?_)
      | true =>
        rw [hf] at I3
        cases hm : okM d m with
        | false =>
          rw [if_neg (by simp)]
          rw [hm] at J
          clear hp hq hf hm BO0
          obtain ⟨W0, hW0⟩ : ∃ W0, W0 = fourW w s a b c t x y z u i j l d m := ⟨_, rfl⟩
          have N0 : Hid (NA w s a b c t x y z u i j l d m W0) := Lib.hid (by rw [hW0]; exact NA.start _ s a b c t x y z u i j l d m)
          unfold fourW at hW0
          have HW := Lib.hid hW0
          clear hW0
          go_enter Tryd.func26, Tryd.ntmps26
          obtain ⟨k0, k1, k2, k3, k4, k5, k6, k7, k8, k9, k10, k11, k12, k13⟩ := N0.out.cells
          go_wp2_with fail
          rw [← HW.out]
          clear HW
          refine (I1.out _).mono ?_
          rintro e w1 ⟨rfl, hb⟩
          have N1 := Lib.hid (N0.out.on hb)
          clear hb N0 k0 k1 k2 k3 k4 k5 k6 k7 k8 k9 k10 k11 k12 k13
          obtain ⟨k0, k1, k2, k3, k4, k5, k6, k7, k8, k9, k10, k11, k12, k13⟩ := N1.out.cells
          go_wp2_with fail
          refine (I2.out _).mono ?_
          rintro e w2 ⟨rfl, hb⟩
          have N2 := Lib.hid (N1.out.on hb)
          clear hb N1 k0 k1 k2 k3 k4 k5 k6 k7 k8 k9 k10 k11 k12 k13
          obtain ⟨k0, k1, k2, k3, k4, k5, k6, k7, k8, k9, k10, k11, k12, k13⟩ := N2.out.cells
          go_wp2_with fail
          refine (I3.out _).mono ?_
          rintro e w3 ⟨rfl, hb⟩
          have N3 := Lib.hid (N2.out.on hb)
          clear hb N2 k0 k1 k2 k3 k4 k5 k6 k7 k8 k9 k10 k11 k12 k13
          obtain ⟨k0, k1, k2, k3, k4, k5, k6, k7, k8, k9, k10, k11, k12, k13⟩ := N3.out.cells
          go_wp2_with fail
          refine (J.out _).mono ?_
          rintro e w4 ⟨rfl, hb⟩
          have N4 := Lib.hid (N3.out.on hb)
          clear hb N3 k0 k1 k2 k3 k4 k5 k6 k7 k8 k9 k10 k11 k12 k13
          obtain ⟨k0, k1, k2, k3, k4, k5, k6, k7, k8, k9, k10, k11, k12, k13⟩ := N4.out.cells
          go_wp2_with fail
          have HB := Lib.hid N4.out.2.2.2.2
          refine bodyPost_ret (v := .tuple #[.int .i64 0, .int .i64 0, .int .i64 1]) (by first | (simp [results, Tryd.results26, go_sem]; done) | (simp [results, Tryd.results26, go_sem, *]; done)) rfl ⟨rfl, ?_⟩
          repeat (first | exact Below.refl _ _ | exact HB.out | refine Below.setCell ?_ (by first | (simp; done) | omega | (simp; omega)) _ | refine Below.alloc ?_ (by first | (simp; done) | omega | (simp; omega)) _ | refine bel_drew ?_)
        | true =>
          rw [hm] at J
          rw [if_pos ⟨rfl, rfl, rfl, rfl⟩]
          obtain ⟨⟨d0, d1⟩, n0, n1⟩ := okM_bd d m hm
          clear hp hq hf hm
          cases hin : inR 0 1000 [n] with
          | false =>
            rw [if_neg (by intro hc; have := (inR_1 0 1000 n).2 ⟨hc.1, hc.2.1⟩; rw [hin] at this; simp at this)]
            have HI := Lib.hid hin
            clear hin d0 d1 n0 n1 BO0
            obtain ⟨W0, hW0⟩ : ∃ W0, W0 = fourW w s a b c t x y z u i j l d m := ⟨_, rfl⟩
            have N0 : Hid (NA w s a b c t x y z u i j l d m W0) := Lib.hid (by rw [hW0]; exact NA.start _ s a b c t x y z u i j l d m)
            unfold fourW at hW0
            have HW := Lib.hid hW0
            clear hW0
            go_enter Tryd.func26, Tryd.ntmps26
            obtain ⟨k0, k1, k2, k3, k4, k5, k6, k7, k8, k9, k10, k11, k12, k13⟩ := N0.out.cells
            go_wp2_with fail
            rw [← HW.out]
            clear HW
            refine (I1.out _).mono ?_
            rintro e w1 ⟨rfl, hb⟩
            have N1 := Lib.hid (N0.out.on hb)
            clear hb N0 k0 k1 k2 k3 k4 k5 k6 k7 k8 k9 k10 k11 k12 k13
            obtain ⟨k0, k1, k2, k3, k4, k5, k6, k7, k8, k9, k10, k11, k12, k13⟩ := N1.out.cells
            go_wp2_with fail
            refine (I2.out _).mono ?_
            rintro e w2 ⟨rfl, hb⟩
            have N2 := Lib.hid (N1.out.on hb)
            clear hb N1 k0 k1 k2 k3 k4 k5 k6 k7 k8 k9 k10 k11 k12 k13
            obtain ⟨k0, k1, k2, k3, k4, k5, k6, k7, k8, k9, k10, k11, k12, k13⟩ := N2.out.cells
            go_wp2_with fail
            refine (I3.out _).mono ?_
            rintro e w3 ⟨rfl, hb⟩
            have N3 := Lib.hid (N2.out.on hb)
            clear hb N2 k0 k1 k2 k3 k4 k5 k6 k7 k8 k9 k10 k11 k12 k13
            obtain ⟨k0, k1, k2, k3, k4, k5, k6, k7, k8, k9, k10, k11, k12, k13⟩ := N3.out.cells
            go_wp2_with fail
            refine (J.out _).mono ?_
            rintro e w4 ⟨rfl, hb⟩
            have N4 := Lib.hid (N3.out.on hb)
            clear hb N3 k0 k1 k2 k3 k4 k5 k6 k7 k8 k9 k10 k11 k12 k13
            obtain ⟨k0, k1, k2, k3, k4, k5, k6, k7, k8, k9, k10, k11, k12, k13⟩ := N4.out.cells
            go_wp2_with fail
            refine (within1 _ _ n _ _ _ (by first | (simp; done) | (rw [World.cell?_alloc_at _ _ _ _ (by simp)]; rfl))).mono ?_
            rintro e w' ⟨rfl, rfl⟩
            rw [HI.out]
            go_wp2_with fail
            have HB := Lib.hid N4.out.2.2.2.2
            refine bodyPost_ret (v := .tuple #[.int .i64 0, .int .i64 0, .int .i64 2]) (by first | (simp [results, Tryd.results26, go_sem]; done) | (simp [results, Tryd.results26, go_sem, *]; done)) rfl ⟨rfl, ?_⟩
            repeat (first | exact Below.refl _ _ | exact HB.out | refine Below.setCell ?_ (by first | (simp; done) | omega | (simp; omega)) _ | refine Below.alloc ?_ (by first | (simp; done) | omega | (simp; omega)) _ | refine bel_drew ?_)
            exact HB.out.alloc HB.out.size _
          | true =>
            obtain ⟨l0, l1⟩ := (inR_1 _ _ _).1 hin
            have HI := Lib.hid hin
            clear hin
            have ID := Lib.hid (fun w => isDay_any (d + n) w)
            by_cases hd : d + n ≤ 99999
            · rw [if_pos ⟨l0, l1, hd⟩]
              rw [(inR_1 0 99999 (d + n)).2 ⟨by omega, hd⟩] at ID
              obtain ⟨nn, rfl⟩ : ∃ nn : Nat, n = (nn : Int) := ⟨n.toNat, by omega⟩
              unfold ndW
              rw [show ((nn : Int)).toNat = nn from by omega]
              have DL0 : Hid (∀ (k : Nat), k ≤ nn → ∀ w, Calls Tryd.prog 51 #[.agg #[.int .i64 d, .int .i64 m], .int .i64 (k : Int)] w fun e w' => e = .returned (.agg #[.int .i64 (d + (k : Int)), .int .i64 m]) ∧ Below w.heap.size w w') := Lib.hid (fun k hk w => by
                have := daysLater_any d m (k : Int) w
                rw [show wrap64 (d + (k : Int)) = d + (k : Int) from IntWalk.wrap64_in _ (by omega)] at this
                exact this)
              simp only [bothV_eq] at BO0
              have rb1 := Lib.hid (fun (k : Nat) => seeR_bd s a b c u i j l (d + (k : Int)) m)
              have rb2 := Lib.hid (fun (k : Nat) => seeR_bd t x y z u i j l (d + (k : Int)) m)
              obtain ⟨A1, hA1⟩ : ∃ A1 : Nat → Int, A1 = fun (k : Nat) => askP s a b c u i j l (d + (k : Int)) m := ⟨_, rfl⟩
              obtain ⟨A2, hA2⟩ : ∃ A2 : Nat → Int, A2 = fun (k : Nat) => askP t x y z u i j l (d + (k : Int)) m := ⟨_, rfl⟩
              obtain ⟨R1, hR1⟩ : ∃ R1 : Nat → Int, R1 = fun (k : Nat) => seeR s a b c u i j l (d + (k : Int)) m := ⟨_, rfl⟩
              obtain ⟨R2, hR2⟩ : ∃ R2 : Nat → Int, R2 = fun (k : Nat) => seeR t x y z u i j l (d + (k : Int)) m := ⟨_, rfl⟩
              obtain ⟨N, hN⟩ : ∃ N : Nat → Int, N = fun (k : Nat) => btw (R1 k) (R2 k) := ⟨_, rfl⟩
              rw [show ndS (fun k => askP s a b c u i j l (d + (k : Int)) m) (fun k => askP t x y z u i j l (d + (k : Int)) m) (fun k => btw (seeR s a b c u i j l (d + (k : Int)) m) (seeR t x y z u i j l (d + (k : Int)) m)) = ndS A1 A2 N from by rw [hN, hR1, hR2, hA1, hA2]]
              simp only [← congrFun hA1, ← congrFun hA2, ← congrFun hR1, ← congrFun hR2] at BO0 rb1 rb2
              clear hA1 hA2 hR1 hR2
              have ng := ndS_neg A1 A2 N (nn + 1)
              obtain ⟨vb, hvb⟩ : ∃ vb : Int × Int, vb = ndS A1 A2 N (nn + 1) := ⟨_, rfl⟩
              rw [← hvb] at ng ⊢
              have HV := Lib.hid hvb
              have NG := Lib.hid ng
              clear hvb ng
              obtain ⟨W0, hW0⟩ : ∃ W0, W0 = fourW w s a b c t x y z u i j l d m := ⟨_, rfl⟩
              have N0 : Hid (NA w s a b c t x y z u i j l d m W0) := Lib.hid (by rw [hW0]; exact NA.start _ s a b c t x y z u i j l d m)
              unfold fourW at hW0
              have HW := Lib.hid hW0
              clear hW0
              go_enter Tryd.func26, Tryd.ntmps26
              obtain ⟨k0, k1, k2, k3, k4, k5, k6, k7, k8, k9, k10, k11, k12, k13⟩ := N0.out.cells
              go_wp2_with fail
              rw [← HW.out]
              clear HW
              refine (I1.out _).mono ?_
              rintro e w1 ⟨rfl, hb⟩
              have N1 := Lib.hid (N0.out.on hb)
              clear hb N0 k0 k1 k2 k3 k4 k5 k6 k7 k8 k9 k10 k11 k12 k13
              obtain ⟨k0, k1, k2, k3, k4, k5, k6, k7, k8, k9, k10, k11, k12, k13⟩ := N1.out.cells
              go_wp2_with fail
              refine (I2.out _).mono ?_
              rintro e w2 ⟨rfl, hb⟩
              have N2 := Lib.hid (N1.out.on hb)
              clear hb N1 k0 k1 k2 k3 k4 k5 k6 k7 k8 k9 k10 k11 k12 k13
              obtain ⟨k0, k1, k2, k3, k4, k5, k6, k7, k8, k9, k10, k11, k12, k13⟩ := N2.out.cells
              go_wp2_with fail
              refine (I3.out _).mono ?_
              rintro e w3 ⟨rfl, hb⟩
              have N3 := Lib.hid (N2.out.on hb)
              clear hb N2 k0 k1 k2 k3 k4 k5 k6 k7 k8 k9 k10 k11 k12 k13
              obtain ⟨k0, k1, k2, k3, k4, k5, k6, k7, k8, k9, k10, k11, k12, k13⟩ := N3.out.cells
              go_wp2_with fail
              refine (J.out _).mono ?_
              rintro e w4 ⟨rfl, hb⟩
              have N4 := Lib.hid (N3.out.on hb)
              clear hb N3 k0 k1 k2 k3 k4 k5 k6 k7 k8 k9 k10 k11 k12 k13
              obtain ⟨k0, k1, k2, k3, k4, k5, k6, k7, k8, k9, k10, k11, k12, k13⟩ := N4.out.cells
              go_wp2_with fail
              refine (within1 _ _ (nn : Int) _ _ _ (by first | (simp; done) | (rw [World.cell?_alloc_at _ _ _ _ (by simp)]; rfl))).mono ?_
              rintro e w' ⟨rfl, rfl⟩
              rw [HI.out]
              have N4' := Lib.hid (N4.out.on ((Below.refl _ _).alloc (Nat.le_refl _) (.cells #[.int .i64 (nn : Int)] 2)))
              clear k0 k1 k2 k3 k4 k5 k6 k7 k8 k9 k10 k11 k12 k13
              obtain ⟨k0, k1, k2, k3, k4, k5, k6, k7, k8, k9, k10, k11, k12, k13⟩ := N4'.out.cells
              go_wp2_with fail
              refine (ID.out _).mono ?_
              rintro e w5 ⟨rfl, hb⟩
              have N5 := Lib.hid (N4'.out.on hb)
              clear hb N4 N4' k0 k1 k2 k3 k4 k5 k6 k7 k8 k9 k10 k11 k12 k13
              go_wp2_with fail
              go_loopg [13, 14, 15, 54] (nn + 1) (fun kx s13 s14 s15 s54 wr => ∃ (k : Nat) (bb q nb cb : Int), k ≤ nn + 1 ∧ s54 = .int .i64 (k : Int) ∧ s13 = .int .i64 nb ∧ s14 = .int .i64 q ∧ s15 = .int .i64 cb ∧ nb = (if bb < 0 then 0 else bb) ∧ cb = (if bb < 0 then 3 else 0) ∧ (bb, q) = ndS A1 A2 N k ∧ kx = nn + 1 - k ∧ Hid (NA w s a b c t x y z u i j l d m wr))
              case atStart => exact ⟨0, -1, 0, 0, 3, by omega, rfl, rfl, rfl, rfl, rfl, rfl, rfl, rfl, N5⟩
              case round =>
                obtain ⟨k, bb, q, nb, cb, hk, rfl, rfl, rfl, rfl, hnb, hcb, hbq, hkx, HN⟩ := hrel
                obtain ⟨k0, k1, k2, k3, k4, k5, k6, k7, k8, k9, k10, k11, k12, k13⟩ := HN.out.cells
                by_cases hlt : k ≤ nn
                · have hlt' : (k : Int) < (nn : Int) + 1 := by omega
                  have ER := Lib.hid (E.out.below HN.out.2.2.2.2)
                  have DL := Lib.hid (DL0.out k hlt)
                  have AT := Lib.hid (fun w => anglesAt_any (d + (k : Int)) m w)
                  have BO := Lib.hid (fun W g hs hm => BO0.out k W g hs hm)
                  have c1 := bothP_bd _ (A1 k) (A2 k) (rb1.out k).1 (rb1.out k).2
                  have c2 := bothP_bd _ (A1 k) (A2 k) (rb2.out k).1 (rb2.out k).2
                  have hst := ndS_at A1 A2 N k bb q hbq
                  by_cases hz : A1 k = 0 ∧ A2 k = 0
                  · have ep : bothP (R1 k) (A1 k) (A2 k) = R1 k := by unfold bothP; rw [if_pos hz]
                    have eq : bothP (R2 k) (A1 k) (A2 k) = R2 k := by unfold bothP; rw [if_pos hz]
                    have ec : bothK (A1 k) (A2 k) = 0 := by unfold bothK; rw [if_pos hz.1]; exact hz.2
                    rw [ep, eq, ec] at BO
                    rw [ep] at c1
                    rw [eq] at c2
                    have BI := Lib.hid (fun w => implBtw_any (R1 k) (R2 k) w (by omega) (by omega) (by omega) (by omega))
                    rw [show btw (R1 k) (R2 k) = N k from by rw [hN]] at BI
                    generalize N k = v at *
                    generalize R1 k = pp at *
                    generalize R2 k = qq at *
                    clear ep eq ec c1 c2
                    by_cases hb : bb < 0
                    · rw [if_pos hb] at hnb hcb
                      subst hnb hcb
                      go_wp2_with fail
                      go_upto_region 9 with fail
                      go_cut [17, 18] from 55 to 90 (fun s17 s18 wx => ∃ r : Nat, s17 = .pointer (some ⟨r, 0, none⟩) ∧ s18 = .int .i64 0 ∧ Hid (C2 wx r pp qq) ∧ Hid (Below wr.heap.size wr wx))
                      case first =>
                        go_region_held3 (fun w' => w'.cell? ⟨w.heap.size, 0, none⟩ = some (.string s) ∧ w'.cell? ⟨w.heap.size, 1, none⟩ = some (.int .i64 a) ∧ w'.cell? ⟨w.heap.size, 2, none⟩ = some (.int .i64 b) ∧ w'.cell? ⟨w.heap.size, 3, none⟩ = some (.int .i64 c) ∧ w'.cell? ⟨w.heap.size + 1, 0, none⟩ = some (.string t) ∧ w'.cell? ⟨w.heap.size + 1, 1, none⟩ = some (.int .i64 x) ∧ w'.cell? ⟨w.heap.size + 1, 2, none⟩ = some (.int .i64 y) ∧ w'.cell? ⟨w.heap.size + 1, 3, none⟩ = some (.int .i64 z) ∧ w'.cell? ⟨w.heap.size + 1 + 1, 0, none⟩ = some (.string u) ∧ w'.cell? ⟨w.heap.size + 1 + 1, 1, none⟩ = some (.int .i64 i) ∧ w'.cell? ⟨w.heap.size + 1 + 1, 2, none⟩ = some (.int .i64 j) ∧ w'.cell? ⟨w.heap.size + 1 + 1, 3, none⟩ = some (.int .i64 l) ∧ w'.cell? ⟨w.heap.size + 1 + 1 + 1, 0, none⟩ = some (.int .i64 d) ∧ w'.cell? ⟨w.heap.size + 1 + 1 + 1, 1, none⟩ = some (.int .i64 m) ∧ Below wr.heap.size wr w') (first | (refine NA.keep HN.out ?_; first | with_reducible exact (bel_drew (Below.refl _ _)) | with_reducible exact y3 | with_reducible exact y2 | with_reducible exact y1 | with_reducible exact y3.alloc y3.size _ | with_reducible exact y2.alloc y2.size _ | with_reducible exact y1.alloc y1.size _ | with_reducible exact bel_drew (Below.refl _ _).alloc (Nat.le_refl _) _ | with_reducible exact bel_drew ((Below.refl _ _).alloc (Nat.le_refl _) _) | with_reducible exact (y3.setCell y3.size _).setCell y3.size _ | with_reducible exact (y3.setCell y2.size _).setCell y2.size _ | with_reducible exact (y3.setCell y1.size _).setCell y1.size _ | with_reducible exact (y3.setCell (Nat.le_refl _) _).setCell (Nat.le_refl _) _) | go_keep) ((first
                          | (go_at_call 51; (with_reducible refine (DL.out _).mono ?_); rintro e x1 ⟨rfl, hx1⟩; (first | have y1 := undrewD1 hx1 | have y1 := undrewP hx1))
                          | (go_at_call 57; (with_reducible refine (AT.out _).mono ?_); rintro e x2 ⟨g, rfl, hm2, hx2⟩; (first | have y2 := onw1 y1 hx2 | have y2 := onw y1 hx2))
                          | (go_at_call 56; (with_reducible refine (BO.out _ _ (SinesOK.below ER.out (by first | exact y2 | exact y2.alloc y2.size _)) (by first | exact hm2 | exact hm2.below ((Below.refl _ _).alloc (Nat.le_refl _) _))).mono ?_); rintro e x3 ⟨rfl, hx3⟩; (first | have y3 := onw1 y2 hx3 | have y3 := onw y2 hx3); (first | (have r := Z2.l1 hx3; have rr := Lib.hid r; obtain ⟨q0, q1, q2, q3⟩ := r) | (have r := (Z2.l1 hx2).go hx3; have rr := Lib.hid r; obtain ⟨q0, q1, q2, q3⟩ := r) | (have r := ((Z2.d1 hx1).go hx2).go hx3; have rr := Lib.hid r; obtain ⟨q0, q1, q2, q3⟩ := r) | skip))))
                        all_goals
                          rename_i held
                          have S1 := Lib.hid held.2.2.2.2.2.2.2.2.2.2.2.2.2.2
                          clear held
                          go_wp2_with fail
                          go_meet
                          case rel => first | exact ⟨_, rfl, rfl, Lib.hid (C2.new _ _ _ _), S1⟩ | exact ⟨_, rfl, rfl, Lib.hid (set2' rr.out _ _), S1⟩
                      case rest =>
                        obtain ⟨r, rfl, rfl, CQ, S2⟩ := hcut
                        obtain ⟨q0, q1, _, _⟩ := CQ.out
                        have HN2 := Lib.hid (HN.out.on S2.out)
                        clear k0 k1 k2 k3 k4 k5 k6 k7 k8 k9 k10 k11 k12 k13 CQ
                        go_wp2_with fail
                        refine (BI.out _).mono ?_
                        rintro e w' ⟨rfl, rfl⟩
                        go_wp2_with fail
                        go_roundg (nn + 1 - (k + 1))
                        case measure => omega
                        case rel => exact ⟨k + 1, (k : Int), v, (k : Int), 0, by omega, congrArg (Value.int .i64) (by omega), rfl, rfl, rfl, by rw [if_neg (by omega)], by rw [if_neg (by omega)], by rw [hst, if_pos hz, if_pos (by omega)], rfl, HN2⟩
                    · rw [if_neg hb] at hnb hcb
                      subst hcb
                      by_cases hv : v < q
                      · go_wp2_with fail
                        go_upto_region 9 with fail
                        go_cut [17, 18] from 55 to 90 (fun s17 s18 wx => ∃ r : Nat, s17 = .pointer (some ⟨r, 0, none⟩) ∧ s18 = .int .i64 0 ∧ Hid (C2 wx r pp qq) ∧ Hid (Below wr.heap.size wr wx))
                        case first =>
                          go_region_held3 (fun w' => w'.cell? ⟨w.heap.size, 0, none⟩ = some (.string s) ∧ w'.cell? ⟨w.heap.size, 1, none⟩ = some (.int .i64 a) ∧ w'.cell? ⟨w.heap.size, 2, none⟩ = some (.int .i64 b) ∧ w'.cell? ⟨w.heap.size, 3, none⟩ = some (.int .i64 c) ∧ w'.cell? ⟨w.heap.size + 1, 0, none⟩ = some (.string t) ∧ w'.cell? ⟨w.heap.size + 1, 1, none⟩ = some (.int .i64 x) ∧ w'.cell? ⟨w.heap.size + 1, 2, none⟩ = some (.int .i64 y) ∧ w'.cell? ⟨w.heap.size + 1, 3, none⟩ = some (.int .i64 z) ∧ w'.cell? ⟨w.heap.size + 1 + 1, 0, none⟩ = some (.string u) ∧ w'.cell? ⟨w.heap.size + 1 + 1, 1, none⟩ = some (.int .i64 i) ∧ w'.cell? ⟨w.heap.size + 1 + 1, 2, none⟩ = some (.int .i64 j) ∧ w'.cell? ⟨w.heap.size + 1 + 1, 3, none⟩ = some (.int .i64 l) ∧ w'.cell? ⟨w.heap.size + 1 + 1 + 1, 0, none⟩ = some (.int .i64 d) ∧ w'.cell? ⟨w.heap.size + 1 + 1 + 1, 1, none⟩ = some (.int .i64 m) ∧ Below wr.heap.size wr w') (first | (refine NA.keep HN.out ?_; first | with_reducible exact (bel_drew (Below.refl _ _)) | with_reducible exact y3 | with_reducible exact y2 | with_reducible exact y1 | with_reducible exact y3.alloc y3.size _ | with_reducible exact y2.alloc y2.size _ | with_reducible exact y1.alloc y1.size _ | with_reducible exact bel_drew (Below.refl _ _).alloc (Nat.le_refl _) _ | with_reducible exact bel_drew ((Below.refl _ _).alloc (Nat.le_refl _) _) | with_reducible exact (y3.setCell y3.size _).setCell y3.size _ | with_reducible exact (y3.setCell y2.size _).setCell y2.size _ | with_reducible exact (y3.setCell y1.size _).setCell y1.size _ | with_reducible exact (y3.setCell (Nat.le_refl _) _).setCell (Nat.le_refl _) _) | go_keep) ((first
                            | (go_at_call 51; (with_reducible refine (DL.out _).mono ?_); rintro e x1 ⟨rfl, hx1⟩; (first | have y1 := undrewD1 hx1 | have y1 := undrewP hx1))
                            | (go_at_call 57; (with_reducible refine (AT.out _).mono ?_); rintro e x2 ⟨g, rfl, hm2, hx2⟩; (first | have y2 := onw1 y1 hx2 | have y2 := onw y1 hx2))
                            | (go_at_call 56; (with_reducible refine (BO.out _ _ (SinesOK.below ER.out (by first | exact y2 | exact y2.alloc y2.size _)) (by first | exact hm2 | exact hm2.below ((Below.refl _ _).alloc (Nat.le_refl _) _))).mono ?_); rintro e x3 ⟨rfl, hx3⟩; (first | have y3 := onw1 y2 hx3 | have y3 := onw y2 hx3); (first | (have r := Z2.l1 hx3; have rr := Lib.hid r; obtain ⟨q0, q1, q2, q3⟩ := r) | (have r := (Z2.l1 hx2).go hx3; have rr := Lib.hid r; obtain ⟨q0, q1, q2, q3⟩ := r) | (have r := ((Z2.d1 hx1).go hx2).go hx3; have rr := Lib.hid r; obtain ⟨q0, q1, q2, q3⟩ := r) | skip))))
                          all_goals
                            rename_i held
                            have S1 := Lib.hid held.2.2.2.2.2.2.2.2.2.2.2.2.2.2
                            clear held
                            go_wp2_with fail
                            go_meet
                            case rel => first | exact ⟨_, rfl, rfl, Lib.hid (C2.new _ _ _ _), S1⟩ | exact ⟨_, rfl, rfl, Lib.hid (set2' rr.out _ _), S1⟩
                        case rest =>
                          obtain ⟨r, rfl, rfl, CQ, S2⟩ := hcut
                          obtain ⟨q0, q1, _, _⟩ := CQ.out
                          have HN2 := Lib.hid (HN.out.on S2.out)
                          clear k0 k1 k2 k3 k4 k5 k6 k7 k8 k9 k10 k11 k12 k13 CQ
                          go_wp2_with fail
                          refine (BI.out _).mono ?_
                          rintro e w' ⟨rfl, rfl⟩
                          go_wp2_with fail
                          go_roundg (nn + 1 - (k + 1))
                          case measure => omega
                          case rel => exact ⟨k + 1, (k : Int), v, (k : Int), 0, by omega, congrArg (Value.int .i64) (by omega), rfl, rfl, rfl, by rw [if_neg (by omega)], by rw [if_neg (by omega)], by rw [hst, if_pos hz, if_pos (by omega)], rfl, HN2⟩
                      · have hv' : decide (v < q) = false := by simpa using hv
                        have hnb2 : Hid (nb = (if bb < 0 then 0 else bb)) := Lib.hid (by rw [if_neg hb]; exact hnb)
                        have hcb2 : Hid ((0 : Int) = (if bb < 0 then 3 else 0)) := Lib.hid (by rw [if_neg hb])
                        clear hnb
                        go_wp2_with fail
                        go_upto_region 9 with fail
                        go_cut [17, 18] from 55 to 90 (fun s17 s18 wx => ∃ r : Nat, s17 = .pointer (some ⟨r, 0, none⟩) ∧ s18 = .int .i64 0 ∧ Hid (C2 wx r pp qq) ∧ Hid (Below wr.heap.size wr wx))
                        case first =>
                          go_region_held3 (fun w' => w'.cell? ⟨w.heap.size, 0, none⟩ = some (.string s) ∧ w'.cell? ⟨w.heap.size, 1, none⟩ = some (.int .i64 a) ∧ w'.cell? ⟨w.heap.size, 2, none⟩ = some (.int .i64 b) ∧ w'.cell? ⟨w.heap.size, 3, none⟩ = some (.int .i64 c) ∧ w'.cell? ⟨w.heap.size + 1, 0, none⟩ = some (.string t) ∧ w'.cell? ⟨w.heap.size + 1, 1, none⟩ = some (.int .i64 x) ∧ w'.cell? ⟨w.heap.size + 1, 2, none⟩ = some (.int .i64 y) ∧ w'.cell? ⟨w.heap.size + 1, 3, none⟩ = some (.int .i64 z) ∧ w'.cell? ⟨w.heap.size + 1 + 1, 0, none⟩ = some (.string u) ∧ w'.cell? ⟨w.heap.size + 1 + 1, 1, none⟩ = some (.int .i64 i) ∧ w'.cell? ⟨w.heap.size + 1 + 1, 2, none⟩ = some (.int .i64 j) ∧ w'.cell? ⟨w.heap.size + 1 + 1, 3, none⟩ = some (.int .i64 l) ∧ w'.cell? ⟨w.heap.size + 1 + 1 + 1, 0, none⟩ = some (.int .i64 d) ∧ w'.cell? ⟨w.heap.size + 1 + 1 + 1, 1, none⟩ = some (.int .i64 m) ∧ Below wr.heap.size wr w') (first | (refine NA.keep HN.out ?_; first | with_reducible exact (bel_drew (Below.refl _ _)) | with_reducible exact y3 | with_reducible exact y2 | with_reducible exact y1 | with_reducible exact y3.alloc y3.size _ | with_reducible exact y2.alloc y2.size _ | with_reducible exact y1.alloc y1.size _ | with_reducible exact bel_drew (Below.refl _ _).alloc (Nat.le_refl _) _ | with_reducible exact bel_drew ((Below.refl _ _).alloc (Nat.le_refl _) _) | with_reducible exact (y3.setCell y3.size _).setCell y3.size _ | with_reducible exact (y3.setCell y2.size _).setCell y2.size _ | with_reducible exact (y3.setCell y1.size _).setCell y1.size _ | with_reducible exact (y3.setCell (Nat.le_refl _) _).setCell (Nat.le_refl _) _) | go_keep) ((first
                            | (go_at_call 51; (with_reducible refine (DL.out _).mono ?_); rintro e x1 ⟨rfl, hx1⟩; (first | have y1 := undrewD1 hx1 | have y1 := undrewP hx1))
                            | (go_at_call 57; (with_reducible refine (AT.out _).mono ?_); rintro e x2 ⟨g, rfl, hm2, hx2⟩; (first | have y2 := onw1 y1 hx2 | have y2 := onw y1 hx2))
                            | (go_at_call 56; (with_reducible refine (BO.out _ _ (SinesOK.below ER.out (by first | exact y2 | exact y2.alloc y2.size _)) (by first | exact hm2 | exact hm2.below ((Below.refl _ _).alloc (Nat.le_refl _) _))).mono ?_); rintro e x3 ⟨rfl, hx3⟩; (first | have y3 := onw1 y2 hx3 | have y3 := onw y2 hx3); (first | (have r := Z2.l1 hx3; have rr := Lib.hid r; obtain ⟨q0, q1, q2, q3⟩ := r) | (have r := (Z2.l1 hx2).go hx3; have rr := Lib.hid r; obtain ⟨q0, q1, q2, q3⟩ := r) | (have r := ((Z2.d1 hx1).go hx2).go hx3; have rr := Lib.hid r; obtain ⟨q0, q1, q2, q3⟩ := r) | skip))))
                          all_goals
                            rename_i held
                            have S1 := Lib.hid held.2.2.2.2.2.2.2.2.2.2.2.2.2.2
                            clear held
                            go_wp2_with fail
                            go_meet
                            case rel => first | exact ⟨_, rfl, rfl, Lib.hid (C2.new _ _ _ _), S1⟩ | exact ⟨_, rfl, rfl, Lib.hid (set2' rr.out _ _), S1⟩
                        case rest =>
                          obtain ⟨r, rfl, rfl, CQ, S2⟩ := hcut
                          obtain ⟨q0, q1, _, _⟩ := CQ.out
                          have HN2 := Lib.hid (HN.out.on S2.out)
                          clear k0 k1 k2 k3 k4 k5 k6 k7 k8 k9 k10 k11 k12 k13 CQ
                          go_wp2_with fail
                          refine (BI.out _).mono ?_
                          rintro e w' ⟨rfl, rfl⟩
                          go_wp2_with fail
                          go_roundg (nn + 1 - (k + 1))
                          case measure => omega
                          case rel => exact ⟨k + 1, bb, q, nb, 0, by omega, congrArg (Value.int .i64) (by omega), rfl, rfl, rfl, hnb2.out, hcb2.out, by rw [hst, if_pos hz, if_neg (by omega)], rfl, HN2⟩
                  · have ec : ¬ bothK (A1 k) (A2 k) = 0 := by
                      unfold bothK
                      split
                      · rename_i h; exact fun h' => hz ⟨h, h'⟩
                      · rename_i h; exact h
                    have BI := Lib.hid (fun w => implBtw_any (bothP (R1 k) (A1 k) (A2 k)) (bothP (R2 k) (A1 k) (A2 k)) w (by omega) (by omega) (by omega) (by omega))
                    generalize bothK (A1 k) (A2 k) = cc at *
                    generalize btw (bothP (R1 k) (A1 k) (A2 k)) (bothP (R2 k) (A1 k) (A2 k)) = v at *
                    generalize bothP (R1 k) (A1 k) (A2 k) = pp at *
                    generalize bothP (R2 k) (A1 k) (A2 k) = qq at *
                    have ec' : (cc == 0) = false := by simpa using ec
                    have HNB := Lib.hid hnb
                    have HCB := Lib.hid hcb
                    clear hnb hcb
                    clear c1 c2
                    rw [if_neg hz] at hst
                    go_wp2_with fail
                    go_upto_region 9 with fail
                    go_cut [17, 18] from 55 to 90 (fun s17 s18 wx => ∃ r : Nat, s17 = .pointer (some ⟨r, 0, none⟩) ∧ s18 = .int .i64 cc ∧ Hid (C2 wx r pp qq) ∧ Hid (Below wr.heap.size wr wx))
                    case first =>
                      go_region_held3 (fun w' => w'.cell? ⟨w.heap.size, 0, none⟩ = some (.string s) ∧ w'.cell? ⟨w.heap.size, 1, none⟩ = some (.int .i64 a) ∧ w'.cell? ⟨w.heap.size, 2, none⟩ = some (.int .i64 b) ∧ w'.cell? ⟨w.heap.size, 3, none⟩ = some (.int .i64 c) ∧ w'.cell? ⟨w.heap.size + 1, 0, none⟩ = some (.string t) ∧ w'.cell? ⟨w.heap.size + 1, 1, none⟩ = some (.int .i64 x) ∧ w'.cell? ⟨w.heap.size + 1, 2, none⟩ = some (.int .i64 y) ∧ w'.cell? ⟨w.heap.size + 1, 3, none⟩ = some (.int .i64 z) ∧ w'.cell? ⟨w.heap.size + 1 + 1, 0, none⟩ = some (.string u) ∧ w'.cell? ⟨w.heap.size + 1 + 1, 1, none⟩ = some (.int .i64 i) ∧ w'.cell? ⟨w.heap.size + 1 + 1, 2, none⟩ = some (.int .i64 j) ∧ w'.cell? ⟨w.heap.size + 1 + 1, 3, none⟩ = some (.int .i64 l) ∧ w'.cell? ⟨w.heap.size + 1 + 1 + 1, 0, none⟩ = some (.int .i64 d) ∧ w'.cell? ⟨w.heap.size + 1 + 1 + 1, 1, none⟩ = some (.int .i64 m) ∧ Below wr.heap.size wr w') (first | (refine NA.keep HN.out ?_; first | with_reducible exact (bel_drew (Below.refl _ _)) | with_reducible exact y3 | with_reducible exact y2 | with_reducible exact y1 | with_reducible exact y3.alloc y3.size _ | with_reducible exact y2.alloc y2.size _ | with_reducible exact y1.alloc y1.size _ | with_reducible exact bel_drew (Below.refl _ _).alloc (Nat.le_refl _) _ | with_reducible exact bel_drew ((Below.refl _ _).alloc (Nat.le_refl _) _) | with_reducible exact (y3.setCell y3.size _).setCell y3.size _ | with_reducible exact (y3.setCell y2.size _).setCell y2.size _ | with_reducible exact (y3.setCell y1.size _).setCell y1.size _ | with_reducible exact (y3.setCell (Nat.le_refl _) _).setCell (Nat.le_refl _) _) | go_keep) ((first
                        | (go_at_call 51; (with_reducible refine (DL.out _).mono ?_); rintro e x1 ⟨rfl, hx1⟩; (first | have y1 := undrewD1 hx1 | have y1 := undrewP hx1))
                        | (go_at_call 57; (with_reducible refine (AT.out _).mono ?_); rintro e x2 ⟨g, rfl, hm2, hx2⟩; (first | have y2 := onw1 y1 hx2 | have y2 := onw y1 hx2))
                        | (go_at_call 56; (with_reducible refine (BO.out _ _ (SinesOK.below ER.out (by first | exact y2 | exact y2.alloc y2.size _)) (by first | exact hm2 | exact hm2.below ((Below.refl _ _).alloc (Nat.le_refl _) _))).mono ?_); rintro e x3 ⟨rfl, hx3⟩; (first | have y3 := onw1 y2 hx3 | have y3 := onw y2 hx3); (first | (have r := Z2.l1 hx3; have rr := Lib.hid r; obtain ⟨q0, q1, q2, q3⟩ := r) | (have r := (Z2.l1 hx2).go hx3; have rr := Lib.hid r; obtain ⟨q0, q1, q2, q3⟩ := r) | (have r := ((Z2.d1 hx1).go hx2).go hx3; have rr := Lib.hid r; obtain ⟨q0, q1, q2, q3⟩ := r) | skip))))
                      all_goals
                        rename_i held
                        have S1 := Lib.hid held.2.2.2.2.2.2.2.2.2.2.2.2.2.2
                        clear held
                        go_wp2_with fail
                        go_meet
                        case rel => first | exact ⟨_, rfl, rfl, Lib.hid (C2.new _ _ _ _), S1⟩ | exact ⟨_, rfl, rfl, Lib.hid (set2' rr.out _ _), S1⟩
                    case rest =>
                      obtain ⟨r, rfl, rfl, CQ, S2⟩ := hcut
                      obtain ⟨q0, q1, _, _⟩ := CQ.out
                      have HN2 := Lib.hid (HN.out.on S2.out)
                      clear k0 k1 k2 k3 k4 k5 k6 k7 k8 k9 k10 k11 k12 k13 CQ
                      go_wp2_with fail
                      refine (BI.out _).mono ?_
                      rintro e w' ⟨rfl, rfl⟩
                      go_wp2_with fail
                      go_roundg (nn + 1 - (k + 1))
                      case measure => omega
                      case rel => exact ⟨k + 1, bb, q, nb, cb, by omega, congrArg (Value.int .i64) (by omega), rfl, rfl, rfl, HNB.out, HCB.out, hst.symm, rfl, HN2⟩
                · obtain rfl : k = nn + 1 := by omega
                  have hlt' : ¬ ((nn + 1 : Nat) : Int) < (nn : Int) + 1 := by omega
                  have hv := HV.out
                  rw [← hbq] at hv
                  have HB := Lib.hid HN.out.2.2.2.2
                  have ER : Hid (ndR vb.1 vb.2 = .tuple #[.int .i64 nb, .int .i64 q, .int .i64 cb]) := Lib.hid (by
                    have ng := NG.out
                    rw [hv] at ng ⊢
                    unfold ndR
                    by_cases h3 : bb < 0
                    · rw [if_pos h3] at hnb hcb
                      have := ng h3
                      simp only at this
                      rw [if_pos h3, hnb, hcb, this]
                    · rw [if_neg h3] at hnb hcb
                      rw [if_neg h3, hnb, hcb])
                  clear HV hbq NG hv hnb hcb k0 k1 k2 k3 k4 k5 k6 k7 k8 k9 k10 k11 k12 k13
                  go_wp2_with fail
                  refine bodyPost_ret (v := .tuple #[.int .i64 nb, .int .i64 q, .int .i64 cb]) (by simp [results, Tryd.results26, go_sem]) rfl ⟨congrArg Ending.returned ER.out.symm, HB.out⟩
            · rw [if_neg (by omega)]
              rw [show inR 0 99999 [d + n] = false from by cases h : inR 0 99999 [d + n] with | false => rfl | true => exact absurd ((inR_1 _ _ _).1 h).2 hd] at ID
              clear BO0
              obtain ⟨W0, hW0⟩ : ∃ W0, W0 = fourW w s a b c t x y z u i j l d m := ⟨_, rfl⟩
              have N0 : Hid (NA w s a b c t x y z u i j l d m W0) := Lib.hid (by rw [hW0]; exact NA.start _ s a b c t x y z u i j l d m)
              unfold fourW at hW0
              have HW := Lib.hid hW0
              clear hW0
              go_enter Tryd.func26, Tryd.ntmps26
              obtain ⟨k0, k1, k2, k3, k4, k5, k6, k7, k8, k9, k10, k11, k12, k13⟩ := N0.out.cells
              go_wp2_with fail
              rw [← HW.out]
              clear HW
              refine (I1.out _).mono ?_
              rintro e w1 ⟨rfl, hb⟩
              have N1 := Lib.hid (N0.out.on hb)
              clear hb N0 k0 k1 k2 k3 k4 k5 k6 k7 k8 k9 k10 k11 k12 k13
              obtain ⟨k0, k1, k2, k3, k4, k5, k6, k7, k8, k9, k10, k11, k12, k13⟩ := N1.out.cells
              go_wp2_with fail
              refine (I2.out _).mono ?_
              rintro e w2 ⟨rfl, hb⟩
              have N2 := Lib.hid (N1.out.on hb)
              clear hb N1 k0 k1 k2 k3 k4 k5 k6 k7 k8 k9 k10 k11 k12 k13
              obtain ⟨k0, k1, k2, k3, k4, k5, k6, k7, k8, k9, k10, k11, k12, k13⟩ := N2.out.cells
              go_wp2_with fail
              refine (I3.out _).mono ?_
              rintro e w3 ⟨rfl, hb⟩
              have N3 := Lib.hid (N2.out.on hb)
              clear hb N2 k0 k1 k2 k3 k4 k5 k6 k7 k8 k9 k10 k11 k12 k13
              obtain ⟨k0, k1, k2, k3, k4, k5, k6, k7, k8, k9, k10, k11, k12, k13⟩ := N3.out.cells
              go_wp2_with fail
              refine (J.out _).mono ?_
              rintro e w4 ⟨rfl, hb⟩
              have N4 := Lib.hid (N3.out.on hb)
              clear hb N3 k0 k1 k2 k3 k4 k5 k6 k7 k8 k9 k10 k11 k12 k13
              obtain ⟨k0, k1, k2, k3, k4, k5, k6, k7, k8, k9, k10, k11, k12, k13⟩ := N4.out.cells
              go_wp2_with fail
              refine (within1 _ _ n _ _ _ (by first | (simp; done) | (rw [World.cell?_alloc_at _ _ _ _ (by simp)]; rfl))).mono ?_
              rintro e w' ⟨rfl, rfl⟩
              rw [HI.out]
              have N4' := Lib.hid (N4.out.on ((Below.refl _ _).alloc (Nat.le_refl _) (.cells #[.int .i64 n] 2)))
              clear k0 k1 k2 k3 k4 k5 k6 k7 k8 k9 k10 k11 k12 k13
              obtain ⟨k0, k1, k2, k3, k4, k5, k6, k7, k8, k9, k10, k11, k12, k13⟩ := N4'.out.cells
              go_wp2_with fail
              refine (ID.out _).mono ?_
              rintro e w5 ⟨rfl, hb⟩
              have N5 := Lib.hid (N4'.out.on hb)
              clear hb N4 N4' k0 k1 k2 k3 k4 k5 k6 k7 k8 k9 k10 k11 k12 k13
              go_wp2_with fail
              have HB := Lib.hid N5.out.2.2.2.2
              refine bodyPost_ret (v := .tuple #[.int .i64 0, .int .i64 0, .int .i64 2]) (by first | (simp [results, Tryd.results26, go_sem]; done) | (simp [results, Tryd.results26, go_sem, *]; done)) rfl ⟨rfl, ?_⟩
              repeat (first | exact Below.refl _ _ | exact HB.out | refine Below.setCell ?_ (by first | (simp; done) | omega | (simp; omega)) _ | refine Below.alloc ?_ (by first | (simp; done) | omega | (simp; omega)) _ | refine bel_drew ?_)
end Go.Proofs.YtmdjogjcdjaafaaDoor
