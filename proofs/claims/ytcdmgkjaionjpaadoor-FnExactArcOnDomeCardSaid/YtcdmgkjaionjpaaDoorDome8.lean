/-
  Arcs on a dome: the contracts of distanceOf at two directions, ArcOnDome (package impl), l09Apart, ArcOnDome (package spec).
-/
import Derived.Test.YtcdmgkjaionjpaaDoorDome7
import Derived.Test.YtcdmgkjaionjpaaDoorSSep
import Derived.Handy
namespace Go.Proofs.YtcdmgkjaionjpaaDoor
open Go.RowKit
set_option linter.unusedVariables false

def sepX (x y z x' y' z' : Int) : Int := if crL x y z x' y' z' = 0 ∧ dotI x y z x' y' z' = 0 then 0 else dirI (crL x y z x' y' z') (dotI x y z x' y' z')
theorem sepX_bd (x y z x' y' z' : Int) : 0 ≤ sepX x y z x' y' z' ∧ sepX x y z x' y' z' < 360000 := by
  unfold sepX
  have := dirI_bd (crL x y z x' y' z') (dotI x y z x' y' z')
  split <;> omega
/-- The angle between two directions. -/
def sep9 (a h a' h' : Int) : Int := sepX (dX a h) (dY a h) (sinI h) (dX a' h') (dY a' h') (sinI h')
theorem sepX_impl (x y z x' y' z' : Int) (h : inV 2000000 x y z) (h' : inV 2000000 x' y' z') : ∃ d : Int, sepV x y z x' y' z' = .tuple #[.int .i64 (sepX x y z x' y' z'), .int .i64 d] := by
  unfold sepV sepX
  rw [(okV_bd _ _ _).2 h, (okV_bd _ _ _).2 h', if_pos rfl, if_pos rfl, atan_of _ _ (crL_bd _ _ _ _ _ _ h h') (dotI_bd _ _ _ _ _ _ h h')]
  split
  · exact ⟨_, rfl⟩
  · exact ⟨_, rfl⟩
theorem sepX_spec (x y z x' y' z' : Int) : ∃ t : Bool, awayV (crL x y z x' y' z') (dotI x y z x' y' z') = .tuple #[.int .i64 (sepX x y z x' y' z'), .bool t] := by
  unfold awayV sepX
  split
  · exact ⟨false, rfl⟩
  · exact ⟨true, rfl⟩
def sightB (a b : Int) : Value := .iface 57 (.agg #[.int .i64 a, .int .i64 b])
set_option maxHeartbeats 1000000 in
theorem distDD_any (a h p q : Int) (fa : fits a) (fp : fits p) (h0 : -90000 ≤ h) (h1 : h ≤ 90000) (q0 : -90000 ≤ q) (q1 : q ≤ 90000) (w : World) (hs : SinesOK w) :
    Calls Tryd.prog 59 #[sightB a h, sightB p q] w fun r w' => r = .returned (.int .i64 (sep9 a h p q)) ∧ Below w.heap.size w w' := by
  unfold sep9
  obtain ⟨d, hd⟩ := sepX_impl (dX a h) (dY a h) (sinI h) (dX p q) (dY p q) (sinI q) (inV_2 (dir_in _ _)) (inV_2 (dir_in _ _))
  have S := Lib.hid (fun w hs => dirTow_any a h fa w hs)
  have T := Lib.hid (fun w hs => dirTow_any p q fp w hs)
  rw [dirT_inD _ _ h0 h1] at S
  rw [dirT_inD _ _ q0 q1] at T
  have F := Lib.hid (fun w hs => implSep_any (dX a h) (dY a h) (sinI h) (dX p q) (dY p q) (sinI q) w hs)
  rw [hd] at F
  have E := Lib.hid hs
  clear hs hd fa fp
  simp only at S T
  generalize sepX (dX a h) (dY a h) (sinI h) (dX p q) (dY p q) (sinI q) = n at *
  generalize dX a h = x at *
  generalize dY a h = y at *
  generalize sinI h = z at *
  generalize dX p q = x' at *
  generalize dY p q = y' at *
  generalize sinI q = z' at *
  unfold sightB
  go_enter Tryd.func59, Tryd.ntmps59
  go_wp2_with fail
  refine (S.out _ E.out).mono ?_
  rintro r w1 ⟨rfl, hb⟩
  have H1 := Lib.hid hb
  clear hb S
  go_wp2_with fail
  refine (T.out _ (E.out.below H1.out)).mono ?_
  rintro r w2 ⟨rfl, hb⟩
  have H2 := Lib.hid (H1.out.trans (hb.mono H1.out.size))
  clear hb T
  go_wp2_with fail
  refine (F.out _ (E.out.below H2.out)).mono ?_
  rintro r w3 ⟨rfl, hb⟩
  have H3 := Lib.hid (H2.out.trans (hb.mono H2.out.size))
  clear hb F
  go_wp2_with fail
  exact bodyPost_ret (v := .int .i64 n) (by simp [results, Tryd.results59, go_sem]) rfl ⟨rfl, H3.out⟩

set_option maxHeartbeats 1000000 in
theorem l09Apart_any (a h p q : Int) (a0 : 0 ≤ a) (a1 : a ≤ 359999) (h0 : -90000 ≤ h) (h1 : h ≤ 90000) (p0 : 0 ≤ p) (p1 : p ≤ 359999) (q0 : -90000 ≤ q) (q1 : q ≤ 90000) (w : World) :
    Calls Tryd.prog 58 #[.int .i64 a, .int .i64 h, .int .i64 p, .int .i64 q] w fun r w' => r = .returned (.int .i64 (sep9 a h p q)) ∧ Below w.heap.size w w' := by
  unfold sep9
  obtain ⟨d, hd⟩ := sepX_spec (dX a h) (dY a h) (sinI h) (dX p q) (dY p q) (sinI q)
  have S := Lib.hid (fun w => l04Direction_any a h (by omega) (by omega) (by omega) (by omega) w)
  have T := Lib.hid (fun w => l04Direction_any p q (by omega) (by omega) (by omega) (by omega) w)
  change Hid (∀ w, Calls Tryd.prog 82 #[.int .i64 a, .int .i64 h] w fun e w' => e = .returned (.agg #[.int .i64 (dX a h), .int .i64 (dY a h), .int .i64 (sinI h)]) ∧ Below w.heap.size w w') at S
  change Hid (∀ w, Calls Tryd.prog 82 #[.int .i64 p, .int .i64 q] w fun e w' => e = .returned (.agg #[.int .i64 (dX p q), .int .i64 (dY p q), .int .i64 (sinI q)]) ∧ Below w.heap.size w w') at T
  have F := Lib.hid (fun w => l04Away_any (dX a h) (dY a h) (sinI h) (dX p q) (dY p q) (sinI q) (inV_2 (dir_in _ _)) (inV_2 (dir_in _ _)) w)
  rw [hd] at F
  clear hd
  generalize sepX (dX a h) (dY a h) (sinI h) (dX p q) (dY p q) (sinI q) = n at *
  generalize dX a h = x at *
  generalize dY a h = y at *
  generalize sinI h = z at *
  generalize dX p q = x' at *
  generalize dY p q = y' at *
  generalize sinI q = z' at *
  go_enter Tryd.func58, Tryd.ntmps58
  go_wp2_with fail
  refine (S.out _).mono ?_
  rintro e w1 ⟨rfl, hb⟩
  have hsw1 := hb.size
  try simp at hsw1
  obtain ⟨hcw1, hfw1⟩ := bcell hb
  have HBw1 : Hid (Below w.heap.size w w1) := by
    apply Lib.hid
    refine Below.trans ?_ (hb.mono ?_)
    · repeat (first | exact Below.refl _ _ | refine Below.setCell ?_ (by first | (simp; done) | omega | (simp; omega)) _ | refine Below.alloc ?_ (by first | (simp; done) | omega | (simp; omega)) _)
    · first | (simp; done) | omega | (simp; omega)
  clear hb
  go_wp2_with fail
  refine (T.out _).mono ?_
  rintro e w2 ⟨rfl, hb⟩
  have hsw2 := hb.size
  try simp at hsw2
  obtain ⟨hcw2, hfw2⟩ := bcell hb
  have HBw2 : Hid (Below w.heap.size w w2) := by
    apply Lib.hid
    refine Below.trans ?_ (hb.mono ?_)
    · repeat (first | exact Below.refl _ _ | exact HBw1.out | refine Below.setCell ?_ (by first | (simp; done) | omega | (simp; omega)) _ | refine Below.alloc ?_ (by first | (simp; done) | omega | (simp; omega)) _)
    · first | (simp; done) | omega | (simp; omega)
  clear hb
  first | (have gsw2w1 : w1.heap.size < w2.heap.size := by omega) | skip
  go_wp2_with fail
  refine (F.out _).mono ?_
  rintro e w3 ⟨rfl, hb⟩
  have hsw3 := hb.size
  try simp at hsw3
  obtain ⟨hcw3, hfw3⟩ := bcell hb
  have HBw3 : Hid (Below w.heap.size w w3) := by
    apply Lib.hid
    refine Below.trans ?_ (hb.mono ?_)
    · repeat (first | exact Below.refl _ _ | exact HBw2.out | refine Below.setCell ?_ (by first | (simp; done) | omega | (simp; omega)) _ | refine Below.alloc ?_ (by first | (simp; done) | omega | (simp; omega)) _)
    · first | (simp; done) | omega | (simp; omega)
  clear hb
  first | (have gsw3w1 : w1.heap.size < w3.heap.size := by omega) | skip
  first | (have gsw3w2 : w2.heap.size < w3.heap.size := by omega) | skip
  go_wp2_with fail
  go_ret
  exact ⟨rfl, HBw3.out⟩

theorem check9_two (s : ByteArray) (r b u v p q : Int) : check9 s r b [(u, v), (p, q)] = if ask9 s r b u v = 0 then (if upB p q = true then 0 else 2) else ask9 s r b u v := by
  unfold check9 ask9 upL
  by_cases h1 : domeB s r b = true <;> by_cases h2 : upB u v = true <;> by_cases h3 : upB p q = true <;> simp [h1, h2, h3]
/-- What ArcOnDome returns. -/
def arcdV (s : ByteArray) (r b u v p q : Int) : Value := if ask9 s r b u v = 0 then (if upB p q = true then .tuple #[.int .i64 (nearQ (r * sep9 u v p q * 314159) 18000000000), .int .i64 0] else .tuple #[.int .i64 0, .int .i64 2]) else .tuple #[.int .i64 0, .int .i64 (ask9 s r b u v)]
theorem arcdV_form (s : ByteArray) (r b u v p q : Int) : ∃ x c : Int, arcdV s r b u v p q = .tuple #[.int .i64 x, .int .i64 c] := by
  unfold arcdV
  split
  · split <;> exact ⟨_, _, rfl⟩
  · exact ⟨_, _, rfl⟩
theorem arc_bd (r n : Int) (r0 : 1000 ≤ r) (r1 : r ≤ 30000) (n0 : 0 ≤ n) (n1 : n < 360000) : 0 ≤ r * n ∧ r * n ≤ 10800000000 := by
  have h1 := Int.mul_nonneg (show 0 ≤ r by omega) n0
  have h2 := pr_bd r n 30000 360000 (by omega) (by omega) (by omega) (by omega)
  omega

set_option maxRecDepth 100000 in
set_option maxHeartbeats 2000000 in
theorem implArcD_any (s : ByteArray) (r b u v p q : Int) (hmax : s.size ≤ maxLen) (fu : fits u) (fv : fits v) (fp : fits p) (fq : fits q) (w : World) (hs : SinesOK w) :
    Calls Tryd.prog 28 #[.agg #[.string s, .int .i64 r, .int .i64 b], .int .i64 u, .int .i64 v, .int .i64 p, .int .i64 q] w fun e w' => e = .returned (arcdV s r b u v p q) ∧ Below w.heap.size w w' := by
  have CK : Hid (∀ (g cap : Nat) (W : World), W.cell? ⟨g, 0, none⟩ = some (.int .i64 u) → W.cell? ⟨g, 1, none⟩ = some (.int .i64 v) → W.cell? ⟨g, 2, none⟩ = some (.int .i64 p) → W.cell? ⟨g, 3, none⟩ = some (.int .i64 q) → Calls Tryd.prog 55 #[.agg #[.string s, .int .i64 r, .int .i64 b], .slice (some ⟨g, 0, none⟩) 2 cap] W fun e w' => e = .returned (.int .i64 (check9 s r b [(u, v), (p, q)])) ∧ Below W.heap.size W w') := Lib.hid (fun g cap W c0 c1 c2 c3 =>
    checkUp_any s r b hmax g cap [(u, v), (p, q)] (by simp) W (fun j hj => by
      match j, hj with
      | 0, _ => exact ⟨c0, c1⟩
      | 1, _ => exact ⟨c2, c3⟩))
  have E := Lib.hid hs
  clear hs hmax
  obtain ⟨W0, hW0⟩ : ∃ W0, W0 = (((w.alloc (.cells #[.string s, .int .i64 r, .int .i64 b] 37)).alloc (.cells #[.int .i64 u, .int .i64 v] 57)).alloc (.cells #[.int .i64 p, .int .i64 q] 57)) := ⟨_, rfl⟩
  have K0 : Hid (W0.cell? ⟨w.heap.size, 0, none⟩ = some (.string s) ∧ W0.cell? ⟨w.heap.size, 1, none⟩ = some (.int .i64 r) ∧ W0.cell? ⟨w.heap.size, 2, none⟩ = some (.int .i64 b) ∧ W0.cell? ⟨w.heap.size + 1, 0, none⟩ = some (.int .i64 u) ∧ W0.cell? ⟨w.heap.size + 1, 1, none⟩ = some (.int .i64 v) ∧ W0.cell? ⟨w.heap.size + 1 + 1, 0, none⟩ = some (.int .i64 p) ∧ W0.cell? ⟨w.heap.size + 1 + 1, 1, none⟩ = some (.int .i64 q) ∧ Below w.heap.size w W0) := Lib.hid (by rw [hW0]; exact ⟨by rw [World.cell?_alloc_lt _ _ _ (by first | (simp; done) | (simp; omega)), World.cell?_alloc_lt _ _ _ (by first | (simp; done) | (simp; omega))]; first | (simp; done) | (rw [World.cell?_alloc_at _ _ _ _ (by first | (simp; done) | (simp; omega))]; rfl), by rw [World.cell?_alloc_lt _ _ _ (by first | (simp; done) | (simp; omega)), World.cell?_alloc_lt _ _ _ (by first | (simp; done) | (simp; omega))]; first | (simp; done) | (rw [World.cell?_alloc_at _ _ _ _ (by first | (simp; done) | (simp; omega))]; rfl), by rw [World.cell?_alloc_lt _ _ _ (by first | (simp; done) | (simp; omega)), World.cell?_alloc_lt _ _ _ (by first | (simp; done) | (simp; omega))]; first | (simp; done) | (rw [World.cell?_alloc_at _ _ _ _ (by first | (simp; done) | (simp; omega))]; rfl), by rw [World.cell?_alloc_lt _ _ _ (by first | (simp; done) | (simp; omega))]; first | (simp; done) | (rw [World.cell?_alloc_at _ _ _ _ (by first | (simp; done) | (simp; omega))]; rfl), by rw [World.cell?_alloc_lt _ _ _ (by first | (simp; done) | (simp; omega))]; first | (simp; done) | (rw [World.cell?_alloc_at _ _ _ _ (by first | (simp; done) | (simp; omega))]; rfl), by first | (simp; done) | (rw [World.cell?_alloc_at _ _ _ _ (by first | (simp; done) | (simp; omega))]; rfl), by first | (simp; done) | (rw [World.cell?_alloc_at _ _ _ _ (by first | (simp; done) | (simp; omega))]; rfl), by repeat (first | exact Below.refl _ _ | refine Below.alloc ?_ (by first | (simp; done) | (simp; omega)) _)⟩)
  have SZ : Hid (W0.heap.size = w.heap.size + 1 + 1 + 1) := Lib.hid (by rw [hW0]; simp)
  have HW := Lib.hid hW0
  clear hW0
  by_cases hk : check9 s r b [(u, v), (p, q)] = 0
  · have hk2 := hk
    rw [check9_two] at hk2
    have ha : ask9 s r b u v = 0 := by
      rcases Decidable.em (ask9 s r b u v = 0) with h | h
      · exact h
      · rw [if_neg h] at hk2; exact absurd hk2 h
    rw [if_pos ha] at hk2
    have hq : upB p q = true := by
      rcases Decidable.em (upB p q = true) with h | h
      · exact h
      · rw [if_neg h] at hk2; omega
    unfold arcdV
    rw [if_pos ha, if_pos hq]
    rw [hk] at CK
    obtain ⟨hd, hu⟩ := (ask9_0 _ _ _ _ _).1 ha
    obtain ⟨⟨u0, u1⟩, v0, v1⟩ := upB_bd hu
    obtain ⟨⟨p0, p1⟩, q0, q1⟩ := upB_bd hq
    have hr := (domeB_bd hd).1
    have D := Lib.hid (fun w hs => distDD_any u v p q fu fp (by omega) v1 (by omega) q1 w hs)
    unfold sightB at D
    have nb := sepX_bd (dX u v) (dY u v) (sinI v) (dX p q) (dY p q) (sinI q)
    change 0 ≤ sep9 u v p q ∧ sep9 u v p q < 360000 at nb
    generalize sep9 u v p q = n at *
    have ab := arc_bd r n hr.1 hr.2 nb.1 nb.2
    have m1 : IntKind.i64.wrap (r * n) = r * n := IntWalk.i64_in _ (by omega)
    have m2 : IntKind.i64.wrap (r * n * 314159) = r * n * 314159 := IntWalk.i64_in _ (by omega)
    have Q := Lib.hid (fun w => nearest_any (r * n * 314159) 18000000000 w (by omega) (by omega) (by omega) (by omega))
    generalize nearQ (r * n * 314159) 18000000000 = x at *
    clear hk hk2 ha hq hd hu hr nb ab fu fv fp fq u0 u1 v0 v1 p0 p1 q0 q1
    go_enter Tryd.func28, Tryd.ntmps28
    obtain ⟨k0, k1, k2, k3, k4, k5, k6, k7⟩ := K0.out
    go_wp2_with fail
    rw [← HW.out]
    clear HW
    refine (CK.out _ _ _ (by rw [World.cell?_alloc_at _ _ _ _ (by first | (simp [SZ.out]; done) | (rw [SZ.out]))]; rfl) (by rw [World.cell?_alloc_at _ _ _ _ (by first | (simp [SZ.out]; done) | (rw [SZ.out]))]; rfl) (by rw [World.cell?_alloc_at _ _ _ _ (by first | (simp [SZ.out]; done) | (rw [SZ.out]))]; rfl) (by rw [World.cell?_alloc_at _ _ _ _ (by first | (simp [SZ.out]; done) | (rw [SZ.out]))]; rfl)).mono ?_
    rintro e w1 ⟨rfl, hb⟩
    have hb0 := ((Below.refl _ W0).alloc (Nat.le_refl _) _).trans (hb.mono (by simp))
    have K1 := Lib.hid (keepW7 K0.out hb0)
    clear hb hb0 k0 k1 k2 k3 k4 k5 k6 k7
    obtain ⟨k0, k1, k2, k3, k4, k5, k6, k7⟩ := K1.out
    have HB1 := Lib.hid k7
    have K2 : Hid (w1.cell? ⟨w.heap.size, 1, none⟩ = some (.int .i64 r) ∧ w1.cell? ⟨w.heap.size + 1, 0, none⟩ = some (.int .i64 u) ∧ w1.cell? ⟨w.heap.size + 1, 1, none⟩ = some (.int .i64 v) ∧ w1.cell? ⟨w.heap.size + 1 + 1, 0, none⟩ = some (.int .i64 p) ∧ w1.cell? ⟨w.heap.size + 1 + 1, 1, none⟩ = some (.int .i64 q) ∧ Below w.heap.size w w1) := Lib.hid ⟨k1, k3, k4, k5, k6, k7⟩
    have E1 := Lib.hid (E.out.below HB1.out)
    clear k0 k2
    go_wp2_with fail
    go_region_held3 (fun w' => w'.cell? ⟨w.heap.size, 1, none⟩ = some (.int .i64 r) ∧ w'.cell? ⟨w.heap.size + 1, 0, none⟩ = some (.int .i64 u) ∧ w'.cell? ⟨w.heap.size + 1, 1, none⟩ = some (.int .i64 v) ∧ w'.cell? ⟨w.heap.size + 1 + 1, 0, none⟩ = some (.int .i64 p) ∧ w'.cell? ⟨w.heap.size + 1 + 1, 1, none⟩ = some (.int .i64 q) ∧ Below w.heap.size w w') (first | (exact keepW5 K2.out (bel_drew (Below.refl _ _))) | (exact keepW5 K2.out y2) | (exact keepW5 K2.out y1) | go_keep) ((first
      | (go_at_call 59; (with_reducible refine (D.out _ (E1.out.below (bel_drew (Below.refl _ _)))).mono ?_); rintro e x1 ⟨rfl, hx1⟩; have y1 := undrewG hx1)
      | (go_at_call 39; (with_reducible refine (Q.out _).mono ?_); rintro e x2 ⟨rfl, hx2⟩; have y2 := y1.trans (hx2.mono y1.size))))
    rename_i held
    have HB := Lib.hid held.2.2.2.2.2
    clear held
    go_wp2_with fail
    refine bodyPost_ret (v := .tuple #[.int .i64 x, .int .i64 0]) (by first | (simp [results, Tryd.results28, go_sem]; done) | (simp [results, Tryd.results28, go_sem]; done)) rfl ⟨rfl, ?_⟩
    repeat (first | exact Below.refl _ _ | exact HB.out | refine Below.setCell ?_ (by first | (simp; done) | omega | (simp; omega)) _ | refine Below.alloc ?_ (by first | (simp; done) | omega | (simp; omega)) _ | refine bel_drew ?_)
  · have hV : arcdV s r b u v p q = .tuple #[.int .i64 0, .int .i64 (check9 s r b [(u, v), (p, q)])] := by
      rw [check9_two] at hk ⊢
      unfold arcdV
      by_cases ha : ask9 s r b u v = 0
      · rw [if_pos ha] at hk ⊢
        rw [if_pos ha]
        by_cases hq : upB p q = true
        · rw [if_pos hq] at hk; exact absurd rfl hk
        · rw [if_neg hq, if_neg hq]
      · rw [if_neg ha, if_neg ha]
    rw [hV]
    clear hV fu fv fp fq
    generalize check9 s r b [(u, v), (p, q)] = k at *
    have hc : (k != 0) = true := by simpa using hk
    have hc2 : (k == 0) = false := by simpa using hk
    clear hk
    go_enter Tryd.func28, Tryd.ntmps28
    obtain ⟨k0, k1, k2, k3, k4, k5, k6, k7⟩ := K0.out
    go_wp2_with fail
    rw [← HW.out]
    clear HW
    refine (CK.out _ _ _ (by rw [World.cell?_alloc_at _ _ _ _ (by first | (simp [SZ.out]; done) | (rw [SZ.out]))]; rfl) (by rw [World.cell?_alloc_at _ _ _ _ (by first | (simp [SZ.out]; done) | (rw [SZ.out]))]; rfl) (by rw [World.cell?_alloc_at _ _ _ _ (by first | (simp [SZ.out]; done) | (rw [SZ.out]))]; rfl) (by rw [World.cell?_alloc_at _ _ _ _ (by first | (simp [SZ.out]; done) | (rw [SZ.out]))]; rfl)).mono ?_
    rintro e w1 ⟨rfl, hb⟩
    have hb0 := ((Below.refl _ W0).alloc (Nat.le_refl _) _).trans (hb.mono (by simp))
    have K1 := Lib.hid (keepW7 K0.out hb0)
    clear hb hb0 k0 k1 k2 k3 k4 k5 k6 k7
    obtain ⟨k0, k1, k2, k3, k4, k5, k6, k7⟩ := K1.out
    have HB1 := Lib.hid k7
    go_wp2_with fail
    refine bodyPost_ret (v := .tuple #[.int .i64 0, .int .i64 k]) (by first | (simp [results, Tryd.results28, go_sem]; done) | (simp [results, Tryd.results28, go_sem]; done)) rfl ⟨rfl, ?_⟩
    repeat (first | exact Below.refl _ _ | exact HB1.out | refine Below.setCell ?_ (by first | (simp; done) | omega | (simp; omega)) _ | refine Below.alloc ?_ (by first | (simp; done) | omega | (simp; omega)) _ | refine bel_drew ?_)

set_option maxRecDepth 100000 in
set_option maxHeartbeats 2000000 in
theorem specArcD_any (s : ByteArray) (r b u v p q : Int) (fu : fits u) (fv : fits v) (fp : fits p) (fq : fits q) (w : World) :
    Calls Tryd.prog 27 #[.agg #[.string s, .int .i64 r, .int .i64 b], .int .i64 u, .int .i64 v, .int .i64 p, .int .i64 q] w fun e w' => e = .returned (arcdV s r b u v p q) ∧ Below w.heap.size w w' := by
  unfold arcdV
  have CK := Lib.hid (fun (w : World) g c0 c1 c2 => l09Ask_at g 0 s r b u v w c0 c1 c2)
  have UP := Lib.hid (fun w => l09Up_any p q w)
  by_cases h : ask9 s r b u v = 0
  · rw [if_pos h]
    rw [h] at CK
    cases hq : upB p q with
    | false =>
      rw [if_neg (by simp)]
      rw [hq] at UP
      clear hq h
      go_enter Tryd.func27, Tryd.ntmps27
      go_wp2_with fail
      refine (CK.out _ _ (by simp) (by simp) (by simp)).mono ?_
      rintro e w' ⟨rfl, rfl⟩
      go_wp2_with fail
      refine (UP.out _).mono ?_
      rintro e w' ⟨rfl, rfl⟩
      go_wp2_with fail
      refine bodyPost_ret (v := .tuple #[.int .i64 0, .int .i64 2]) (by first | (simp [results, Tryd.results27, go_sem]; done) | (simp [results, Tryd.results27, go_sem]; done)) rfl ⟨rfl, ?_⟩
      repeat (first | exact Below.refl _ _ | refine Below.setCell ?_ (by first | (simp; done) | omega | (simp; omega)) _ | refine Below.alloc ?_ (by first | (simp; done) | omega | (simp; omega)) _ | refine bel_drew ?_)
    | true =>
      rw [if_pos rfl]
      rw [hq] at UP
      obtain ⟨hd, hu⟩ := (ask9_0 _ _ _ _ _).1 h
      obtain ⟨⟨u0, u1⟩, v0, v1⟩ := upB_bd hu
      obtain ⟨⟨p0, p1⟩, q0, q1⟩ := upB_bd hq
      have hr := (domeB_bd hd).1
      have D := Lib.hid (fun w => l09Apart_any u v p q u0 u1 (by omega) v1 p0 p1 (by omega) q1 w)
      have nb := sepX_bd (dX u v) (dY u v) (sinI v) (dX p q) (dY p q) (sinI q)
      change 0 ≤ sep9 u v p q ∧ sep9 u v p q < 360000 at nb
      generalize sep9 u v p q = n at *
      have ab := arc_bd r n hr.1 hr.2 nb.1 nb.2
      have m1 : IntKind.i64.wrap (r * n) = r * n := IntWalk.i64_in _ (by omega)
      have m2 : IntKind.i64.wrap (r * n * 314159) = r * n * 314159 := IntWalk.i64_in _ (by omega)
      have Q := Lib.hid (fun w => l01Div_any (r * n * 314159) 18000000000 w (by omega) (by omega) (by omega) (by omega) (by omega))
      generalize nearQ (r * n * 314159) 18000000000 = x at *
      clear h hq hd hu hr nb ab fu fv fp fq u0 u1 v0 v1 p0 p1 q0 q1
      have K0 : Hid ((w.alloc (.cells #[.string s, .int .i64 r, .int .i64 b] 37)).cell? ⟨w.heap.size, 1, none⟩ = some (.int .i64 r) ∧ Below w.heap.size w (w.alloc (.cells #[.string s, .int .i64 r, .int .i64 b] 37))) := Lib.hid ⟨by simp, (Below.refl _ _).alloc (Nat.le_refl _) _⟩
      go_enter Tryd.func27, Tryd.ntmps27
      go_wp2_with fail
      refine (CK.out _ _ (by simp) (by simp) (by simp)).mono ?_
      rintro e w' ⟨rfl, rfl⟩
      go_wp2_with fail
      refine (UP.out _).mono ?_
      rintro e w' ⟨rfl, rfl⟩
      go_wp2_with fail
      go_region_held3 (fun w' => w'.cell? ⟨w.heap.size, 1, none⟩ = some (.int .i64 r) ∧ Below w.heap.size w w') (first | (exact keepW1 K0.out (bel_drew (Below.refl _ _))) | (exact keepW1 K0.out y1) | go_keep) ((first
        | (go_at_call 58; (with_reducible refine (D.out _).mono ?_); rintro e x1 ⟨rfl, hx1⟩; have y1 := undrewG hx1)
        | (go_at_call 57; refine (Q.out _).mono ?_; rintro e x2 ⟨rfl, rfl⟩)))
      rename_i held
      have HB := Lib.hid held.2
      clear held
      go_wp2_with fail
      refine bodyPost_ret (v := .tuple #[.int .i64 x, .int .i64 0]) (by first | (simp [results, Tryd.results27, go_sem]; done) | (simp [results, Tryd.results27, go_sem]; done)) rfl ⟨rfl, ?_⟩
      repeat (first | exact Below.refl _ _ | exact HB.out | refine Below.setCell ?_ (by first | (simp; done) | omega | (simp; omega)) _ | refine Below.alloc ?_ (by first | (simp; done) | omega | (simp; omega)) _ | refine bel_drew ?_)
  · rw [if_neg h]
    generalize ask9 s r b u v = k at *
    have hk : (k == 0) = false := by simpa using h
    have hk2 : (k != 0) = true := by simpa using h
    clear h
    go_enter Tryd.func27, Tryd.ntmps27
    go_wp2_with fail
    refine (CK.out _ _ (by simp) (by simp) (by simp)).mono ?_
    rintro e w' ⟨rfl, rfl⟩
    go_wp2_with fail
    refine bodyPost_ret (v := .tuple #[.int .i64 0, .int .i64 k]) (by first | (simp [results, Tryd.results27, go_sem]; done) | (simp [results, Tryd.results27, go_sem]; done)) rfl ⟨rfl, ?_⟩
    repeat (first | exact Below.refl _ _ | refine Below.setCell ?_ (by first | (simp; done) | omega | (simp; omega)) _ | refine Below.alloc ?_ (by first | (simp; done) | omega | (simp; omega)) _ | refine bel_drew ?_)
end Go.Proofs.YtcdmgkjaionjpaaDoor
