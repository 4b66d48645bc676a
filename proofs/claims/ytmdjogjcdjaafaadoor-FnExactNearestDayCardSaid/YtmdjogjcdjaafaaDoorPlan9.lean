/-
  The day on which two planets are nearest: the mathematics; the contract of NearestDay (package spec).
-/
import Derived.Test.YtmdjogjcdjaafaaDoorPlan8
import Derived.Deep.LoopGhost
namespace Go.Proofs.YtmdjogjcdjaafaaDoor
open Go.RowKit
set_option linter.unusedVariables false

/-- The best day and the least angle, behind k days. -/
def ndS (A1 A2 N : Nat → Int) : Nat → Int × Int
  | 0 => (-1, 0)
  | k + 1 => if A1 k = 0 ∧ A2 k = 0 then (if (ndS A1 A2 N k).1 < 0 ∨ N k < (ndS A1 A2 N k).2 then ((k : Int), N k) else ndS A1 A2 N k) else ndS A1 A2 N k
theorem ndS_at (A1 A2 N : Nat → Int) (k : Nat) (b l : Int) (h : (b, l) = ndS A1 A2 N k) : ndS A1 A2 N (k + 1) = if A1 k = 0 ∧ A2 k = 0 then (if b < 0 ∨ N k < l then ((k : Int), N k) else (b, l)) else (b, l) := by
  show (if A1 k = 0 ∧ A2 k = 0 then (if (ndS A1 A2 N k).1 < 0 ∨ N k < (ndS A1 A2 N k).2 then ((k : Int), N k) else ndS A1 A2 N k) else ndS A1 A2 N k) = _
  rw [← h]
def ndR (b l : Int) : Value := if b < 0 then .tuple #[.int .i64 0, .int .i64 0, .int .i64 3] else .tuple #[.int .i64 b, .int .i64 l, .int .i64 0]
def ndW (s : ByteArray) (a b c : Int) (t : ByteArray) (x y z : Int) (u : ByteArray) (i j l d m : Int) (n : Int) : Int × Int := ndS (fun k => askP s a b c u i j l (d + (k : Int)) m) (fun k => askP t x y z u i j l (d + (k : Int)) m) (fun k => btw (seeR s a b c u i j l (d + (k : Int)) m) (seeR t x y z u i j l (d + (k : Int)) m)) (n.toNat + 1)
/-- What NearestDay returns. -/
def ndV (s : ByteArray) (a b c : Int) (t : ByteArray) (x y z : Int) (u : ByteArray) (i j l d m : Int) (n : Int) : Value := if planetB s a b c = true ∧ planetB t x y z = true ∧ planetB u i j l = true ∧ okM d m = true then (if 0 ≤ n ∧ n ≤ 1000 ∧ d + n ≤ 99999 then ndR (ndW s a b c t x y z u i j l d m n).1 (ndW s a b c t x y z u i j l d m n).2 else .tuple #[.int .i64 0, .int .i64 0, .int .i64 2]) else .tuple #[.int .i64 0, .int .i64 0, .int .i64 1]
theorem ndV_form (s : ByteArray) (a b c : Int) (t : ByteArray) (x y z : Int) (u : ByteArray) (i j l d m : Int) (n : Int) : ∃ p q r : Int, ndV s a b c t x y z u i j l d m n = .tuple #[.int .i64 p, .int .i64 q, .int .i64 r] := by
  unfold ndV ndR
  split
  · split
    · split <;> exact ⟨_, _, _, rfl⟩
    · exact ⟨_, _, _, rfl⟩
  · exact ⟨_, _, _, rfl⟩
/-- What stays: three planets and a moment. -/
def NA (w : World) (s : ByteArray) (a b c : Int) (t : ByteArray) (x y z : Int) (u : ByteArray) (i j l d m : Int) (W : World) : Prop := Pl W w.heap.size s a b c ∧ Pl W (w.heap.size + 1) t x y z ∧ Pl W (w.heap.size + 1 + 1) u i j l ∧ Mo W (w.heap.size + 1 + 1 + 1) d m ∧ Below w.heap.size w W
theorem NA.on {w W W' : World} {s : ByteArray} {a b c : Int} {t : ByteArray} {x y z : Int} {u : ByteArray} {i j l d m : Int} (k : NA w s a b c t x y z u i j l d m W) (hb : Below W.heap.size W W') : NA w s a b c t x y z u i j l d m W' :=
  ⟨k.1.below hb, k.2.1.below hb, k.2.2.1.below hb, k.2.2.2.1.below hb, k.2.2.2.2.trans (hb.mono k.2.2.2.2.size)⟩
def fourW (w : World) (s : ByteArray) (a b c : Int) (t : ByteArray) (x y z : Int) (u : ByteArray) (i j l d m : Int) : World := (((w.alloc (.cells #[.string s, .int .i64 a, .int .i64 b, .int .i64 c] 29)).alloc (.cells #[.string t, .int .i64 x, .int .i64 y, .int .i64 z] 29)).alloc (.cells #[.string u, .int .i64 i, .int .i64 j, .int .i64 l] 29)).alloc (.cells #[.int .i64 d, .int .i64 m] 31)
theorem NA.start (w : World) (s : ByteArray) (a b c : Int) (t : ByteArray) (x y z : Int) (u : ByteArray) (i j l d m : Int) : NA w s a b c t x y z u i j l d m (fourW w s a b c t x y z u i j l d m) := by
  unfold fourW
  refine ⟨?_, ?_, ?_, ?_, ?_⟩
  · exact (((Pl.new _ _ _ _ _ _).alloc _).alloc _).alloc _
  · simpa using ((Pl.new (w.alloc (.cells #[.string s, .int .i64 a, .int .i64 b, .int .i64 c] 29)) 29 t x y z).alloc (.cells #[.string u, .int .i64 i, .int .i64 j, .int .i64 l] 29)).alloc (.cells #[.int .i64 d, .int .i64 m] 31)
  · simpa using (Pl.new ((w.alloc (.cells #[.string s, .int .i64 a, .int .i64 b, .int .i64 c] 29)).alloc (.cells #[.string t, .int .i64 x, .int .i64 y, .int .i64 z] 29)) 29 u i j l).alloc (.cells #[.int .i64 d, .int .i64 m] 31)
  · simpa using Mo.new (((w.alloc (.cells #[.string s, .int .i64 a, .int .i64 b, .int .i64 c] 29)).alloc (.cells #[.string t, .int .i64 x, .int .i64 y, .int .i64 z] 29)).alloc (.cells #[.string u, .int .i64 i, .int .i64 j, .int .i64 l] 29)) 31 d m
  · exact ((((Below.refl _ _).alloc (Nat.le_refl _) _).alloc (by first | (simp; done) | (simp; omega)) _).alloc (by first | (simp; done) | (simp; omega)) _).alloc (by first | (simp; done) | (simp; omega)) _

set_option maxRecDepth 100000 in
set_option maxHeartbeats 4000000 in
theorem specNearestDay_any (s : ByteArray) (a b c : Int) (t : ByteArray) (x y z : Int) (u : ByteArray) (i j l d m : Int) (n : Int) (w : World) :
    Calls Tryd.prog 25 #[.agg #[.string s, .int .i64 a, .int .i64 b, .int .i64 c], .agg #[.string t, .int .i64 x, .int .i64 y, .int .i64 z], .agg #[.string u, .int .i64 i, .int .i64 j, .int .i64 l], .agg #[.int .i64 d, .int .i64 m], .int .i64 n] w fun e w' => e = .returned (ndV s a b c t x y z u i j l d m n) ∧ Below w.heap.size w w' := by
  unfold ndV
  have I1 := Lib.hid (fun (w : World) g h0 h1 h2 h3 => l07One_at g 0 s a b c w h0 h1 h2 h3)
  have I2 := Lib.hid (fun (w : World) g h0 h1 h2 h3 => l07One_at g 0 t x y z w h0 h1 h2 h3)
  have I3 := Lib.hid (fun (w : World) g h0 h1 h2 h3 => l07One_at g 0 u i j l w h0 h1 h2 h3)
  have J := Lib.hid (fun w => l03Ok_any d m w)
  have L := Lib.hid (fun w => l00In_any n 0 1000 w)
  cases hp : planetB s a b c with
  | false =>
    rw [if_neg (by simp)]
    rw [hp] at I1
    clear hp
    obtain ⟨W0, hW0⟩ : ∃ W0, W0 = fourW w s a b c t x y z u i j l d m := ⟨_, rfl⟩
    have N0 : Hid (NA w s a b c t x y z u i j l d m W0) := Lib.hid (by rw [hW0]; exact NA.start _ s a b c t x y z u i j l d m)
    unfold fourW at hW0
    have HW := Lib.hid hW0
    clear hW0
    go_enter Tryd.func25, Tryd.ntmps25
    go_wp2_with fail
    rw [← HW.out]
    clear HW
    refine (I1.out _ _ N0.out.1.c0 N0.out.1.c1 N0.out.1.c2 N0.out.1.c3).mono ?_
    rintro e w' ⟨rfl, rfl⟩
    go_wp2_with fail
    have HB := Lib.hid N0.out.2.2.2.2
    refine bodyPost_ret (v := .tuple #[.int .i64 0, .int .i64 0, .int .i64 1]) (by first | (simp [results, Tryd.results25, go_sem]; done) | (simp [results, Tryd.results25, go_sem, *]; done)) rfl ⟨rfl, ?_⟩
    repeat (first | exact Below.refl _ _ | exact HB.out | refine Below.setCell ?_ (by first | (simp; done) | omega | (simp; omega)) _ | refine Below.alloc ?_ (by first | (simp; done) | omega | (simp; omega)) _ | refine bel_drew ?_)
  | true =>
    rw [hp] at I1
    cases hq : planetB t x y z with
    | false =>
      rw [if_neg (by simp)]
      rw [hq] at I2
      clear hp hq
      obtain ⟨W0, hW0⟩ : ∃ W0, W0 = fourW w s a b c t x y z u i j l d m := ⟨_, rfl⟩
      have N0 : Hid (NA w s a b c t x y z u i j l d m W0) := Lib.hid (by rw [hW0]; exact NA.start _ s a b c t x y z u i j l d m)
      unfold fourW at hW0
      have HW := Lib.hid hW0
      clear hW0
      go_enter Tryd.func25, Tryd.ntmps25
      go_wp2_with fail
      rw [← HW.out]
      clear HW
      refine (I1.out _ _ N0.out.1.c0 N0.out.1.c1 N0.out.1.c2 N0.out.1.c3).mono ?_
      rintro e w' ⟨rfl, rfl⟩
      go_wp2_with fail
      refine (I2.out _ _ N0.out.2.1.c0 N0.out.2.1.c1 N0.out.2.1.c2 N0.out.2.1.c3).mono ?_
      rintro e w' ⟨rfl, rfl⟩
      go_wp2_with fail
      have HB := Lib.hid N0.out.2.2.2.2
      refine bodyPost_ret (v := .tuple #[.int .i64 0, .int .i64 0, .int .i64 1]) (by first | (simp [results, Tryd.results25, go_sem]; done) | (simp [results, Tryd.results25, go_sem, *]; done)) rfl ⟨rfl, ?_⟩
      repeat (first | exact Below.refl _ _ | exact HB.out | refine Below.setCell ?_ (by first | (simp; done) | omega | (simp; omega)) _ | refine Below.alloc ?_ (by first | (simp; done) | omega | (simp; omega)) _ | refine bel_drew ?_)
    | true =>
      rw [hq] at I2
      cases hf : planetB u i j l with
      | false =>
        rw [if_neg (by simp)]
        rw [hf] at I3
        clear hp hq hf
        obtain ⟨W0, hW0⟩ : ∃ W0, W0 = fourW w s a b c t x y z u i j l d m := ⟨_, rfl⟩
        have N0 : Hid (NA w s a b c t x y z u i j l d m W0) := Lib.hid (by rw [hW0]; exact NA.start _ s a b c t x y z u i j l d m)
        unfold fourW at hW0
        have HW := Lib.hid hW0
        clear hW0
        go_enter Tryd.func25, Tryd.ntmps25
        go_wp2_with fail
        rw [← HW.out]
        clear HW
        refine (I1.out _ _ N0.out.1.c0 N0.out.1.c1 N0.out.1.c2 N0.out.1.c3).mono ?_
        rintro e w' ⟨rfl, rfl⟩
        go_wp2_with fail
        refine (I2.out _ _ N0.out.2.1.c0 N0.out.2.1.c1 N0.out.2.1.c2 N0.out.2.1.c3).mono ?_
        rintro e w' ⟨rfl, rfl⟩
        go_wp2_with fail
        refine (I3.out _ _ N0.out.2.2.1.c0 N0.out.2.2.1.c1 N0.out.2.2.1.c2 N0.out.2.2.1.c3).mono ?_
        rintro e w' ⟨rfl, rfl⟩
        go_wp2_with fail
        have HB := Lib.hid N0.out.2.2.2.2
        refine bodyPost_ret (v := .tuple #[.int .i64 0, .int .i64 0, .int .i64 1]) (by first | (simp [results, Tryd.results25, go_sem]; done) | (simp [results, Tryd.results25, go_sem, *]; done)) rfl ⟨rfl, ?_⟩
        repeat (first | exact Below.refl _ _ | exact HB.out | refine Below.setCell ?_ (by first | (simp; done) | omega | (simp; omega)) _ | refine Below.alloc ?_ (by first | (simp; done) | omega | (simp; omega)) _ | refine bel_drew ?_)
      | true =>
        rw [hf] at I3
        cases hm : okM d m with
        | false =>
          rw [if_neg (by simp)]
          rw [hm] at J
          clear hp hq hf hm
          obtain ⟨W0, hW0⟩ : ∃ W0, W0 = fourW w s a b c t x y z u i j l d m := ⟨_, rfl⟩
          have N0 : Hid (NA w s a b c t x y z u i j l d m W0) := Lib.hid (by rw [hW0]; exact NA.start _ s a b c t x y z u i j l d m)
          unfold fourW at hW0
          have HW := Lib.hid hW0
          clear hW0
          go_enter Tryd.func25, Tryd.ntmps25
          go_wp2_with fail
          rw [← HW.out]
          clear HW
          refine (I1.out _ _ N0.out.1.c0 N0.out.1.c1 N0.out.1.c2 N0.out.1.c3).mono ?_
          rintro e w' ⟨rfl, rfl⟩
          go_wp2_with fail
          refine (I2.out _ _ N0.out.2.1.c0 N0.out.2.1.c1 N0.out.2.1.c2 N0.out.2.1.c3).mono ?_
          rintro e w' ⟨rfl, rfl⟩
          go_wp2_with fail
          refine (I3.out _ _ N0.out.2.2.1.c0 N0.out.2.2.1.c1 N0.out.2.2.1.c2 N0.out.2.2.1.c3).mono ?_
          rintro e w' ⟨rfl, rfl⟩
          obtain ⟨m0, m1⟩ := N0.out.2.2.2.1
          go_wp2_with fail
          refine (J.out _).mono ?_
          rintro e w1 ⟨rfl, hb⟩
          have N1 := Lib.hid (N0.out.on hb)
          clear hb N0 m0 m1
          obtain ⟨m0, m1⟩ := N1.out.2.2.2.1
          go_wp2_with fail
          have HB := Lib.hid N1.out.2.2.2.2
          refine bodyPost_ret (v := .tuple #[.int .i64 0, .int .i64 0, .int .i64 1]) (by first | (simp [results, Tryd.results25, go_sem]; done) | (simp [results, Tryd.results25, go_sem, *]; done)) rfl ⟨rfl, ?_⟩
          repeat (first | exact Below.refl _ _ | exact HB.out | refine Below.setCell ?_ (by first | (simp; done) | omega | (simp; omega)) _ | refine Below.alloc ?_ (by first | (simp; done) | omega | (simp; omega)) _ | refine bel_drew ?_)
        | true =>
          rw [hm] at J
          rw [if_pos ⟨rfl, rfl, rfl, rfl⟩]
          obtain ⟨⟨d0, d1⟩, n0, n1⟩ := okM_bd d m hm
          cases hin : inR 0 1000 [n] with
          | false =>
            rw [if_neg (by intro hc; have := (inR_1 0 1000 n).2 ⟨hc.1, hc.2.1⟩; rw [hin] at this; simp at this)]
            rw [hin] at L
            clear hp hq hf hm hin d0 d1 n0 n1
            obtain ⟨W0, hW0⟩ : ∃ W0, W0 = fourW w s a b c t x y z u i j l d m := ⟨_, rfl⟩
            have N0 : Hid (NA w s a b c t x y z u i j l d m W0) := Lib.hid (by rw [hW0]; exact NA.start _ s a b c t x y z u i j l d m)
            unfold fourW at hW0
            have HW := Lib.hid hW0
            clear hW0
            go_enter Tryd.func25, Tryd.ntmps25
            go_wp2_with fail
            rw [← HW.out]
            clear HW
            refine (I1.out _ _ N0.out.1.c0 N0.out.1.c1 N0.out.1.c2 N0.out.1.c3).mono ?_
            rintro e w' ⟨rfl, rfl⟩
            go_wp2_with fail
            refine (I2.out _ _ N0.out.2.1.c0 N0.out.2.1.c1 N0.out.2.1.c2 N0.out.2.1.c3).mono ?_
            rintro e w' ⟨rfl, rfl⟩
            go_wp2_with fail
            refine (I3.out _ _ N0.out.2.2.1.c0 N0.out.2.2.1.c1 N0.out.2.2.1.c2 N0.out.2.2.1.c3).mono ?_
            rintro e w' ⟨rfl, rfl⟩
            obtain ⟨m0, m1⟩ := N0.out.2.2.2.1
            go_wp2_with fail
            refine (J.out _).mono ?_
            rintro e w1 ⟨rfl, hb⟩
            have N1 := Lib.hid (N0.out.on hb)
            clear hb N0 m0 m1
            obtain ⟨m0, m1⟩ := N1.out.2.2.2.1
            go_wp2_with fail
            refine (L.out _).mono ?_
            rintro e w' ⟨rfl, rfl⟩
            go_wp2_with fail
            have HB := Lib.hid N1.out.2.2.2.2
            refine bodyPost_ret (v := .tuple #[.int .i64 0, .int .i64 0, .int .i64 2]) (by first | (simp [results, Tryd.results25, go_sem]; done) | (simp [results, Tryd.results25, go_sem, *]; done)) rfl ⟨rfl, ?_⟩
            repeat (first | exact Below.refl _ _ | exact HB.out | refine Below.setCell ?_ (by first | (simp; done) | omega | (simp; omega)) _ | refine Below.alloc ?_ (by first | (simp; done) | omega | (simp; omega)) _ | refine bel_drew ?_)
          | true =>
            obtain ⟨l0, l1⟩ := (inR_1 _ _ _).1 hin
            rw [hin] at L
            clear hin
            by_cases hd : d + n ≤ 99999
            · rw [if_pos ⟨l0, l1, hd⟩]
              obtain ⟨nn, rfl⟩ : ∃ nn : Nat, n = (nn : Int) := ⟨n.toNat, by omega⟩
              unfold ndW
              rw [show ((nn : Int)).toNat = nn from by omega]
              have KA0 := Lib.hid (fun (k : Nat) (w' : World) p f => l07Ask_at w.heap.size (w.heap.size + 1 + 1) s a b c u i j l (d + (k : Int)) m w' p f)
              have KB0 := Lib.hid (fun (k : Nat) (w' : World) p f => l07Ask_at (w.heap.size + 1) (w.heap.size + 1 + 1) t x y z u i j l (d + (k : Int)) m w' p f)
              have SA0 : Hid (∀ (k : Nat), askP s a b c u i j l (d + (k : Int)) m = 0 → ∀ (w' : World), Pl w' w.heap.size s a b c → Pl w' (w.heap.size + 1 + 1) u i j l → Calls Tryd.prog 34 #[.pointer (some ⟨w.heap.size, 0, none⟩), .pointer (some ⟨w.heap.size + 1 + 1, 0, none⟩), .agg #[.int .i64 (d + (k : Int)), .int .i64 m]] w' fun e w'' => e = .returned (.int .i64 (seeR s a b c u i j l (d + (k : Int)) m)) ∧ Below w'.heap.size w' w'') := Lib.hid (fun k h w' p f => by
                obtain ⟨_, _, hm2, _⟩ := askP_0 _ _ _ _ _ _ _ _ _ _ h
                rw [seeR_0 _ _ _ _ _ _ _ _ _ _ h]
                exact l07Seen_at _ _ s a b c u i j l (d + (k : Int)) m hp hf hm2 w' p f)
              have SB0 : Hid (∀ (k : Nat), askP t x y z u i j l (d + (k : Int)) m = 0 → ∀ (w' : World), Pl w' (w.heap.size + 1) t x y z → Pl w' (w.heap.size + 1 + 1) u i j l → Calls Tryd.prog 34 #[.pointer (some ⟨w.heap.size + 1, 0, none⟩), .pointer (some ⟨w.heap.size + 1 + 1, 0, none⟩), .agg #[.int .i64 (d + (k : Int)), .int .i64 m]] w' fun e w'' => e = .returned (.int .i64 (seeR t x y z u i j l (d + (k : Int)) m)) ∧ Below w'.heap.size w' w'') := Lib.hid (fun k h w' p f => by
                obtain ⟨_, _, hm2, _⟩ := askP_0 _ _ _ _ _ _ _ _ _ _ h
                rw [seeR_0 _ _ _ _ _ _ _ _ _ _ h]
                exact l07Seen_at _ _ t x y z u i j l (d + (k : Int)) m hq hf hm2 w' p f)
              have rb1 := Lib.hid (fun (k : Nat) => seeR_bd s a b c u i j l (d + (k : Int)) m)
              have rb2 := Lib.hid (fun (k : Nat) => seeR_bd t x y z u i j l (d + (k : Int)) m)
              obtain ⟨A1, hA1⟩ : ∃ A1 : Nat → Int, A1 = fun (k : Nat) => askP s a b c u i j l (d + (k : Int)) m := ⟨_, rfl⟩
              obtain ⟨A2, hA2⟩ : ∃ A2 : Nat → Int, A2 = fun (k : Nat) => askP t x y z u i j l (d + (k : Int)) m := ⟨_, rfl⟩
              obtain ⟨R1, hR1⟩ : ∃ R1 : Nat → Int, R1 = fun (k : Nat) => seeR s a b c u i j l (d + (k : Int)) m := ⟨_, rfl⟩
              obtain ⟨R2, hR2⟩ : ∃ R2 : Nat → Int, R2 = fun (k : Nat) => seeR t x y z u i j l (d + (k : Int)) m := ⟨_, rfl⟩
              obtain ⟨N, hN⟩ : ∃ N : Nat → Int, N = fun (k : Nat) => btw (R1 k) (R2 k) := ⟨_, rfl⟩
              rw [show ndS (fun k => askP s a b c u i j l (d + (k : Int)) m) (fun k => askP t x y z u i j l (d + (k : Int)) m) (fun k => btw (seeR s a b c u i j l (d + (k : Int)) m) (seeR t x y z u i j l (d + (k : Int)) m)) = ndS A1 A2 N from by rw [hN, hR1, hR2, hA1, hA2]]
              simp only [← congrFun hA1, ← congrFun hA2, ← congrFun hR1, ← congrFun hR2] at KA0 KB0 SA0 SB0 rb1 rb2
              clear hA1 hA2 hR1 hR2 hp hq hf hm
              obtain ⟨vb, hvb⟩ : ∃ vb : Int × Int, vb = ndS A1 A2 N (nn + 1) := ⟨_, rfl⟩
              rw [← hvb]
              have HV := Lib.hid hvb
              clear hvb
              obtain ⟨W0, hW0⟩ : ∃ W0, W0 = fourW w s a b c t x y z u i j l d m := ⟨_, rfl⟩
              have N0 : Hid (NA w s a b c t x y z u i j l d m W0) := Lib.hid (by rw [hW0]; exact NA.start _ s a b c t x y z u i j l d m)
              unfold fourW at hW0
              have HW := Lib.hid hW0
              clear hW0
              go_enter Tryd.func25, Tryd.ntmps25
              go_wp2_with fail
              rw [← HW.out]
              clear HW
              refine (I1.out _ _ N0.out.1.c0 N0.out.1.c1 N0.out.1.c2 N0.out.1.c3).mono ?_
              rintro e w' ⟨rfl, rfl⟩
              go_wp2_with fail
              refine (I2.out _ _ N0.out.2.1.c0 N0.out.2.1.c1 N0.out.2.1.c2 N0.out.2.1.c3).mono ?_
              rintro e w' ⟨rfl, rfl⟩
              go_wp2_with fail
              refine (I3.out _ _ N0.out.2.2.1.c0 N0.out.2.2.1.c1 N0.out.2.2.1.c2 N0.out.2.2.1.c3).mono ?_
              rintro e w' ⟨rfl, rfl⟩
              obtain ⟨m0, m1⟩ := N0.out.2.2.2.1
              go_wp2_with fail
              refine (J.out _).mono ?_
              rintro e w1 ⟨rfl, hb⟩
              have N1 := Lib.hid (N0.out.on hb)
              clear hb N0 m0 m1
              obtain ⟨m0, m1⟩ := N1.out.2.2.2.1
              go_wp2_with fail
              refine (L.out _).mono ?_
              rintro e w' ⟨rfl, rfl⟩
              go_wp2_with fail
              go_loopg [13, 14, 15] (nn + 1) (fun kx s13 s14 s15 wr => ∃ (k : Nat) (bb q : Int), k ≤ nn + 1 ∧ s15 = .int .i64 (k : Int) ∧ s13 = .int .i64 bb ∧ s14 = .int .i64 q ∧ (bb, q) = ndS A1 A2 N k ∧ kx = nn + 1 - k ∧ Hid (NA w s a b c t x y z u i j l d m wr))
              case atStart => exact ⟨0, -1, 0, by omega, rfl, rfl, rfl, rfl, rfl, N1⟩
              case round =>
                obtain ⟨k, bb, q, hk, rfl, rfl, rfl, hbq, hkx, HN⟩ := hrel
                obtain ⟨m0, m1⟩ := HN.out.2.2.2.1
                by_cases hlt : k ≤ nn
                · have hlt' : (k : Int) ≤ (nn : Int) := by omega
                  have hst := ndS_at A1 A2 N k bb q hbq
                  have KA := Lib.hid (KA0.out k)
                  have KB := Lib.hid (KB0.out k)
                  have SA1 := Lib.hid (SA0.out k)
                  have SB1 := Lib.hid (SB0.out k)
                  have c1 := rb1.out k
                  have c2 := rb2.out k
                  have BB := Lib.hid (fun w => l02Between_any (R1 k) (R2 k) w (by omega) (by omega) (by omega) (by omega))
                  rw [show btw (R1 k) (R2 k) = N k from by rw [hN]] at BB
                  generalize A1 k = a1 at *
                  generalize A2 k = a2 at *
                  generalize N k = v at *
                  generalize R1 k = r1 at *
                  generalize R2 k = r2 at *
                  by_cases h1 : a1 = 0
                  · subst h1
                    have SA := Lib.hid (SA1.out rfl)
                    by_cases h2 : a2 = 0
                    · subst h2
                      have SB := Lib.hid (SB1.out rfl)
                      have h1 : (0 : Int) = 0 := rfl
                      have h2 : (0 : Int) = 0 := rfl
                      clear SA1 SB1
                      by_cases h3 : bb < 0
                      · go_wp2_with fail
                        have hx : Below wr.heap.size wr (wr.alloc (.cells #[.int .i64 (d + (k : Int)), .int .i64 m] 31)) := (Below.refl _ _).alloc (Nat.le_refl _) _
                        have A0 : Hid (Mo (wr.alloc (.cells #[.int .i64 (d + (k : Int)), .int .i64 m] 31)) wr.heap.size (d + (k : Int)) m) := Lib.hid (Mo.new _ _ _ _)
                        have G0 := Lib.hid (HN.out.on hx)
                        refine (KA.out _ G0.out.1 G0.out.2.2.1).mono ?_
                        rintro e w2 ⟨rfl, hb⟩
                        have G2 := Lib.hid (G0.out.on hb)
                        have A2' := Lib.hid (A0.out.below hb)
                        clear hb hx G0 A0 m0 m1
                        obtain ⟨p0, p1⟩ := A2'.out
                        go_wp2_with fail
                        refine (KB.out _ G2.out.2.1 G2.out.2.2.1).mono ?_
                        rintro e w3 ⟨rfl, hb⟩
                        have G3 := Lib.hid (G2.out.on hb)
                        have A3 := Lib.hid (A2'.out.below hb)
                        clear hb p0 p1 G2 A2'
                        obtain ⟨p0, p1⟩ := A3.out
                        go_wp2_with fail
                        have P3 := Lib.hid G3.out.1
                        have Q3 := Lib.hid G3.out.2.1
                        have F3 := Lib.hid G3.out.2.2.1
                        have KK : Hid (w3.cell? ⟨wr.heap.size, 0, none⟩ = some (.int .i64 (d + (k : Int))) ∧ w3.cell? ⟨wr.heap.size, 1, none⟩ = some (.int .i64 m) ∧ Below w3.heap.size w3 w3) := Lib.hid ⟨A3.out.c0, A3.out.c1, Below.refl _ _⟩
                        go_region_held3 (fun w' => w'.cell? ⟨wr.heap.size, 0, none⟩ = some (.int .i64 (d + (k : Int))) ∧ w'.cell? ⟨wr.heap.size, 1, none⟩ = some (.int .i64 m) ∧ Below w3.heap.size w3 w') (first | (exact keepM KK.out (bel_drew (Below.refl _ _))) | (exact keepM KK.out y2) | (exact keepM KK.out y1) | go_keep) ((first
                          | (go_at_call 34; (first
                            | ((with_reducible refine (SA.out _ (P3.out.below (bel_drew (Below.refl _ _))) (F3.out.below (bel_drew (Below.refl _ _)))).mono ?_); rintro e x1 ⟨rfl, hx1⟩; have y1 := undrewP hx1)
                            | ((with_reducible refine (SB.out _ (Q3.out.below y1) (F3.out.below y1)).mono ?_); rintro e x2 ⟨rfl, hx2⟩; have y2 := y1.trans (hx2.mono y1.size))))
                          | (go_at_call 40; (with_reducible refine (BB.out _).mono ?_); rintro e x3 ⟨rfl, rfl⟩)))
                        rename_i held
                        have G4 := Lib.hid (G3.out.on held.2.2)
                        clear held p0 p1 m0 m1
                        go_wp2_with fail
                        go_roundg (nn + 1 - (k + 1))
                        case measure => omega
                        case rel => exact ⟨k + 1, (k : Int), v, by omega, congrArg (Value.int .i64) (by omega), rfl, rfl, by rw [hst, if_pos ⟨h1, h2⟩, if_pos (Or.inl h3)], rfl, G4⟩
                      · by_cases h4 : v < q
                        · go_wp2_with fail
                          have hx : Below wr.heap.size wr (wr.alloc (.cells #[.int .i64 (d + (k : Int)), .int .i64 m] 31)) := (Below.refl _ _).alloc (Nat.le_refl _) _
                          have A0 : Hid (Mo (wr.alloc (.cells #[.int .i64 (d + (k : Int)), .int .i64 m] 31)) wr.heap.size (d + (k : Int)) m) := Lib.hid (Mo.new _ _ _ _)
                          have G0 := Lib.hid (HN.out.on hx)
                          refine (KA.out _ G0.out.1 G0.out.2.2.1).mono ?_
                          rintro e w2 ⟨rfl, hb⟩
                          have G2 := Lib.hid (G0.out.on hb)
                          have A2' := Lib.hid (A0.out.below hb)
                          clear hb hx G0 A0 m0 m1
                          obtain ⟨p0, p1⟩ := A2'.out
                          go_wp2_with fail
                          refine (KB.out _ G2.out.2.1 G2.out.2.2.1).mono ?_
                          rintro e w3 ⟨rfl, hb⟩
                          have G3 := Lib.hid (G2.out.on hb)
                          have A3 := Lib.hid (A2'.out.below hb)
                          clear hb p0 p1 G2 A2'
                          obtain ⟨p0, p1⟩ := A3.out
                          go_wp2_with fail
                          have P3 := Lib.hid G3.out.1
                          have Q3 := Lib.hid G3.out.2.1
                          have F3 := Lib.hid G3.out.2.2.1
                          have KK : Hid (w3.cell? ⟨wr.heap.size, 0, none⟩ = some (.int .i64 (d + (k : Int))) ∧ w3.cell? ⟨wr.heap.size, 1, none⟩ = some (.int .i64 m) ∧ Below w3.heap.size w3 w3) := Lib.hid ⟨A3.out.c0, A3.out.c1, Below.refl _ _⟩
                          go_region_held3 (fun w' => w'.cell? ⟨wr.heap.size, 0, none⟩ = some (.int .i64 (d + (k : Int))) ∧ w'.cell? ⟨wr.heap.size, 1, none⟩ = some (.int .i64 m) ∧ Below w3.heap.size w3 w') (first | (exact keepM KK.out (bel_drew (Below.refl _ _))) | (exact keepM KK.out y2) | (exact keepM KK.out y1) | go_keep) ((first
                            | (go_at_call 34; (first
                              | ((with_reducible refine (SA.out _ (P3.out.below (bel_drew (Below.refl _ _))) (F3.out.below (bel_drew (Below.refl _ _)))).mono ?_); rintro e x1 ⟨rfl, hx1⟩; have y1 := undrewP hx1)
                              | ((with_reducible refine (SB.out _ (Q3.out.below y1) (F3.out.below y1)).mono ?_); rintro e x2 ⟨rfl, hx2⟩; have y2 := y1.trans (hx2.mono y1.size))))
                            | (go_at_call 40; (with_reducible refine (BB.out _).mono ?_); rintro e x3 ⟨rfl, rfl⟩)))
                          rename_i held
                          have G4 := Lib.hid (G3.out.on held.2.2)
                          clear held p0 p1 m0 m1
                          go_wp2_with fail
                          go_roundg (nn + 1 - (k + 1))
                          case measure => omega
                          case rel => exact ⟨k + 1, (k : Int), v, by omega, congrArg (Value.int .i64) (by omega), rfl, rfl, by rw [hst, if_pos ⟨h1, h2⟩, if_pos (Or.inr h4)], rfl, G4⟩
                        · go_wp2_with fail
                          have hx : Below wr.heap.size wr (wr.alloc (.cells #[.int .i64 (d + (k : Int)), .int .i64 m] 31)) := (Below.refl _ _).alloc (Nat.le_refl _) _
                          have A0 : Hid (Mo (wr.alloc (.cells #[.int .i64 (d + (k : Int)), .int .i64 m] 31)) wr.heap.size (d + (k : Int)) m) := Lib.hid (Mo.new _ _ _ _)
                          have G0 := Lib.hid (HN.out.on hx)
                          refine (KA.out _ G0.out.1 G0.out.2.2.1).mono ?_
                          rintro e w2 ⟨rfl, hb⟩
                          have G2 := Lib.hid (G0.out.on hb)
                          have A2' := Lib.hid (A0.out.below hb)
                          clear hb hx G0 A0 m0 m1
                          obtain ⟨p0, p1⟩ := A2'.out
                          go_wp2_with fail
                          refine (KB.out _ G2.out.2.1 G2.out.2.2.1).mono ?_
                          rintro e w3 ⟨rfl, hb⟩
                          have G3 := Lib.hid (G2.out.on hb)
                          have A3 := Lib.hid (A2'.out.below hb)
                          clear hb p0 p1 G2 A2'
                          obtain ⟨p0, p1⟩ := A3.out
                          go_wp2_with fail
                          have P3 := Lib.hid G3.out.1
                          have Q3 := Lib.hid G3.out.2.1
                          have F3 := Lib.hid G3.out.2.2.1
                          have KK : Hid (w3.cell? ⟨wr.heap.size, 0, none⟩ = some (.int .i64 (d + (k : Int))) ∧ w3.cell? ⟨wr.heap.size, 1, none⟩ = some (.int .i64 m) ∧ Below w3.heap.size w3 w3) := Lib.hid ⟨A3.out.c0, A3.out.c1, Below.refl _ _⟩
                          go_region_held3 (fun w' => w'.cell? ⟨wr.heap.size, 0, none⟩ = some (.int .i64 (d + (k : Int))) ∧ w'.cell? ⟨wr.heap.size, 1, none⟩ = some (.int .i64 m) ∧ Below w3.heap.size w3 w') (first | (exact keepM KK.out (bel_drew (Below.refl _ _))) | (exact keepM KK.out y2) | (exact keepM KK.out y1) | go_keep) ((first
                            | (go_at_call 34; (first
                              | ((with_reducible refine (SA.out _ (P3.out.below (bel_drew (Below.refl _ _))) (F3.out.below (bel_drew (Below.refl _ _)))).mono ?_); rintro e x1 ⟨rfl, hx1⟩; have y1 := undrewP hx1)
                              | ((with_reducible refine (SB.out _ (Q3.out.below y1) (F3.out.below y1)).mono ?_); rintro e x2 ⟨rfl, hx2⟩; have y2 := y1.trans (hx2.mono y1.size))))
                            | (go_at_call 40; (with_reducible refine (BB.out _).mono ?_); rintro e x3 ⟨rfl, rfl⟩)))
                          rename_i held
                          have G4 := Lib.hid (G3.out.on held.2.2)
                          clear held p0 p1 m0 m1
                          go_wp2_with fail
                          go_roundg (nn + 1 - (k + 1))
                          case measure => omega
                          case rel => exact ⟨k + 1, bb, q, by omega, congrArg (Value.int .i64) (by omega), rfl, rfl, by rw [hst, if_pos ⟨h1, h2⟩, if_neg (by omega)], rfl, G4⟩
                    · have h2' : (a2 == 0) = false := by simpa using h2
                      go_wp2_with fail
                      have hx : Below wr.heap.size wr (wr.alloc (.cells #[.int .i64 (d + (k : Int)), .int .i64 m] 31)) := (Below.refl _ _).alloc (Nat.le_refl _) _
                      have A0 : Hid (Mo (wr.alloc (.cells #[.int .i64 (d + (k : Int)), .int .i64 m] 31)) wr.heap.size (d + (k : Int)) m) := Lib.hid (Mo.new _ _ _ _)
                      have G0 := Lib.hid (HN.out.on hx)
                      refine (KA.out _ G0.out.1 G0.out.2.2.1).mono ?_
                      rintro e w2 ⟨rfl, hb⟩
                      have G2 := Lib.hid (G0.out.on hb)
                      have A2' := Lib.hid (A0.out.below hb)
                      clear hb hx G0 A0 m0 m1
                      obtain ⟨p0, p1⟩ := A2'.out
                      go_wp2_with fail
                      refine (KB.out _ G2.out.2.1 G2.out.2.2.1).mono ?_
                      rintro e w3 ⟨rfl, hb⟩
                      have G3 := Lib.hid (G2.out.on hb)
                      have A3 := Lib.hid (A2'.out.below hb)
                      clear hb p0 p1 G2 A2'
                      obtain ⟨p0, p1⟩ := A3.out
                      go_wp2_with fail
                      go_roundg (nn + 1 - (k + 1))
                      case measure => omega
                      case rel => exact ⟨k + 1, bb, q, by omega, congrArg (Value.int .i64) (by omega), rfl, rfl, by rw [hst, if_neg (fun h => h2 h.2)], rfl, G3⟩
                  · have h1' : (a1 == 0) = false := by simpa using h1
                    go_wp2_with fail
                    have hx : Below wr.heap.size wr (wr.alloc (.cells #[.int .i64 (d + (k : Int)), .int .i64 m] 31)) := (Below.refl _ _).alloc (Nat.le_refl _) _
                    have A0 : Hid (Mo (wr.alloc (.cells #[.int .i64 (d + (k : Int)), .int .i64 m] 31)) wr.heap.size (d + (k : Int)) m) := Lib.hid (Mo.new _ _ _ _)
                    have G0 := Lib.hid (HN.out.on hx)
                    refine (KA.out _ G0.out.1 G0.out.2.2.1).mono ?_
                    rintro e w2 ⟨rfl, hb⟩
                    have G2 := Lib.hid (G0.out.on hb)
                    have A2' := Lib.hid (A0.out.below hb)
                    clear hb hx G0 A0 m0 m1
                    obtain ⟨p0, p1⟩ := A2'.out
                    go_wp2_with fail
                    go_roundg (nn + 1 - (k + 1))
                    case measure => omega
                    case rel => exact ⟨k + 1, bb, q, by omega, congrArg (Value.int .i64) (by omega), rfl, rfl, by rw [hst, if_neg (fun h => h1 h.1)], rfl, G2⟩
                · obtain rfl : k = nn + 1 := by omega
                  have hlt' : ¬ ((nn + 1 : Nat) : Int) ≤ (nn : Int) := by omega
                  have hv := HV.out
                  rw [← hbq] at hv
                  have HB := Lib.hid HN.out.2.2.2.2
                  clear HV hbq
                  by_cases h3 : bb < 0
                  · subst hv
                    have er : ndR bb q = .tuple #[.int .i64 0, .int .i64 0, .int .i64 3] := by unfold ndR; rw [if_pos h3]
                    have ER := Lib.hid er
                    clear er
                    go_wp2_with fail
                    refine bodyPost_ret (v := .tuple #[.int .i64 0, .int .i64 0, .int .i64 3]) (by simp [results, Tryd.results25, go_sem]) rfl ⟨congrArg Ending.returned ER.out.symm, HB.out⟩
                  · subst hv
                    have er : ndR bb q = .tuple #[.int .i64 bb, .int .i64 q, .int .i64 0] := by unfold ndR; rw [if_neg h3]
                    have ER := Lib.hid er
                    clear er
                    go_wp2_with fail
                    refine bodyPost_ret (v := .tuple #[.int .i64 bb, .int .i64 q, .int .i64 0]) (by simp [results, Tryd.results25, go_sem]) rfl ⟨congrArg Ending.returned ER.out.symm, HB.out⟩
            · rw [if_neg (by omega)]
              have hd' : decide (99999 < d + n) = true := by simp; omega
              clear hp hq hf hm
              obtain ⟨W0, hW0⟩ : ∃ W0, W0 = fourW w s a b c t x y z u i j l d m := ⟨_, rfl⟩
              have N0 : Hid (NA w s a b c t x y z u i j l d m W0) := Lib.hid (by rw [hW0]; exact NA.start _ s a b c t x y z u i j l d m)
              unfold fourW at hW0
              have HW := Lib.hid hW0
              clear hW0
              go_enter Tryd.func25, Tryd.ntmps25
              go_wp2_with fail
              rw [← HW.out]
              clear HW
              refine (I1.out _ _ N0.out.1.c0 N0.out.1.c1 N0.out.1.c2 N0.out.1.c3).mono ?_
              rintro e w' ⟨rfl, rfl⟩
              go_wp2_with fail
              refine (I2.out _ _ N0.out.2.1.c0 N0.out.2.1.c1 N0.out.2.1.c2 N0.out.2.1.c3).mono ?_
              rintro e w' ⟨rfl, rfl⟩
              go_wp2_with fail
              refine (I3.out _ _ N0.out.2.2.1.c0 N0.out.2.2.1.c1 N0.out.2.2.1.c2 N0.out.2.2.1.c3).mono ?_
              rintro e w' ⟨rfl, rfl⟩
              obtain ⟨m0, m1⟩ := N0.out.2.2.2.1
              go_wp2_with fail
              refine (J.out _).mono ?_
              rintro e w1 ⟨rfl, hb⟩
              have N1 := Lib.hid (N0.out.on hb)
              clear hb N0 m0 m1
              obtain ⟨m0, m1⟩ := N1.out.2.2.2.1
              go_wp2_with fail
              refine (L.out _).mono ?_
              rintro e w' ⟨rfl, rfl⟩
              go_wp2_with fail
              have HB := Lib.hid N1.out.2.2.2.2
              refine bodyPost_ret (v := .tuple #[.int .i64 0, .int .i64 0, .int .i64 2]) (by first | (simp [results, Tryd.results25, go_sem]; done) | (simp [results, Tryd.results25, go_sem, *]; done)) rfl ⟨rfl, ?_⟩
              repeat (first | exact Below.refl _ _ | exact HB.out | refine Below.setCell ?_ (by first | (simp; done) | omega | (simp; omega)) _ | refine Below.alloc ?_ (by first | (simp; done) | omega | (simp; omega)) _ | refine bel_drew ?_)
end Go.Proofs.YtmdjogjcdjaafaaDoor
