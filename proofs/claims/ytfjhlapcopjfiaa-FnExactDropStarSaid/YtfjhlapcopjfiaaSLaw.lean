/-
  The law's own helpers on own rows of stars: eqStarS, markStarS, heldStarS.
-/
import Derived.Test.YtfjhlapcopjfiaaSOwn
import Derived.Test.YtfjhlapcopjfiaaKeep
namespace Go.Proofs.Ytfjhlapcopjfiaa
open Go.RowKit
set_option linter.unusedVariables false

set_option maxRecDepth 100000 in
set_option maxHeartbeats 1000000 in
theorem eqSO_full (B B' g g' cap cap' : Nat) (zs : List StarV) (w : World) (hb : zs.length ≤ 1048577) (h1 : SOwn w B (.slice (some ⟨g, 0, none⟩) zs.length cap) zs) (h2 : SOwn w B' (.slice (some ⟨g', 0, none⟩) zs.length cap') zs) :
    Calls Try.prog 22 #[.slice (some ⟨g, 0, none⟩) zs.length cap, .slice (some ⟨g', 0, none⟩) zs.length cap'] w fun e w' => e = .returned (.bool true) ∧ Below w.heap.size w w' := by
  have H1 := Lib.hid h1
  have H2 := Lib.hid h2
  clear h1 h2
  go_enter Try.func22, Try.ntmps22
  go_wp2_with fail
  go_loopg [5] (zs.length + 1) (fun kx s5 wr => ∃ j : Nat, s5 = .int .i64 (j : Int) ∧ j ≤ zs.length ∧ kx = zs.length + 1 - j ∧ Hid (Below w.heap.size w wr))
  case atStart => exact ⟨0, rfl, Nat.zero_le _, rfl, Lib.hid (Below.refl _ _)⟩
  case round =>
    obtain ⟨j, rfl, hj, rfl, HB⟩ := hrel
    by_cases hlt : j < zs.length
    · obtain ⟨c0, c1, c2, c3, c4⟩ := (H1.out.keep HB.out).at j hlt
      obtain ⟨d0, d1, d2, d3, d4⟩ := (H2.out.keep HB.out).at j hlt
      generalize zs[j] = x at *
      obtain ⟨xs, xa, xb, xc, xd⟩ := x
      simp only at c0 c1 c2 c3 c4 d0 d1 d2 d3 d4
      have j0 : (0 : Int) ≤ (j : Int) := by omega
      have j1 : (j : Int) < (zs.length : Int) := by omega
      have E := Lib.hid (fun w => eqStar_same xs xa xb xc xd w)
      have K : Hid (wr.cell? ⟨g, j * 5, none⟩ = some (.string xs) ∧ wr.cell? ⟨g, j * 5 + 1, none⟩ = some (.int .i64 xa) ∧ wr.cell? ⟨g, j * 5 + 2, none⟩ = some (.int .i64 xb) ∧ wr.cell? ⟨g, j * 5 + 3, none⟩ = some (.int .i64 xc) ∧ wr.cell? ⟨g, j * 5 + 4, none⟩ = some (.int .i64 xd) ∧ wr.cell? ⟨g', j * 5, none⟩ = some (.string xs) ∧ wr.cell? ⟨g', j * 5 + 1, none⟩ = some (.int .i64 xa) ∧ wr.cell? ⟨g', j * 5 + 2, none⟩ = some (.int .i64 xb) ∧ wr.cell? ⟨g', j * 5 + 3, none⟩ = some (.int .i64 xc) ∧ wr.cell? ⟨g', j * 5 + 4, none⟩ = some (.int .i64 xd) ∧ Below w.heap.size w wr) := Lib.hid ⟨c0, c1, c2, c3, c4, d0, d1, d2, d3, d4, HB.out⟩
      go_wp2_with fail
      go_region_held3 (fun W => W.cell? ⟨g, j * 5, none⟩ = some (.string xs) ∧ W.cell? ⟨g, j * 5 + 1, none⟩ = some (.int .i64 xa) ∧ W.cell? ⟨g, j * 5 + 2, none⟩ = some (.int .i64 xb) ∧ W.cell? ⟨g, j * 5 + 3, none⟩ = some (.int .i64 xc) ∧ W.cell? ⟨g, j * 5 + 4, none⟩ = some (.int .i64 xd) ∧ W.cell? ⟨g', j * 5, none⟩ = some (.string xs) ∧ W.cell? ⟨g', j * 5 + 1, none⟩ = some (.int .i64 xa) ∧ W.cell? ⟨g', j * 5 + 2, none⟩ = some (.int .i64 xb) ∧ W.cell? ⟨g', j * 5 + 3, none⟩ = some (.int .i64 xc) ∧ W.cell? ⟨g', j * 5 + 4, none⟩ = some (.int .i64 xd) ∧ Below w.heap.size w W) (first | (exact keepE K.out (drewS wr)) | (exact keepE K.out y1) | go_keep) ((first
        | (go_at_call 63; refine (E.out _).mono ?_; rintro e x1 ⟨rfl, hx1⟩; have y1 := undrewS hx1)))
      rename_i held
      have HH := Lib.hid held.2.2.2.2.2.2.2.2.2.2
      clear held K
      go_wp2_with fail
      go_roundg (zs.length + 1 - (j + 1))
      case measure => omega
      case rel => exact ⟨j + 1, by go_num, by omega, by omega, HH⟩
    · obtain rfl : j = zs.length := by omega
      go_wp2_with fail
      go_ret
      exact ⟨rfl, HB.out⟩

theorem eqSO_any {B B' : Nat} {v u : Value} {zs : List StarV} {w : World} (hb : zs.length ≤ 1048576) (h1 : SOwn w B v zs) (h2 : SOwn w B' u zs) :
    Calls Try.prog 22 #[v, u] w fun e w' => e = .returned (.bool true) ∧ Below w.heap.size w w' := by
  by_cases hz : zs = []
  · subst hz
    have f : ∀ {C : Nat} {x : Value}, SOwn w C x [] → ∃ a c, x = .slice a 0 c := by
      intro C x h
      rcases h.forms with ⟨rfl, _⟩ | ⟨g, cap, rfl, _⟩
      · exact ⟨_, _, rfl⟩
      · exact ⟨_, _, rfl⟩
    obtain ⟨a, c, rfl⟩ := f h1
    obtain ⟨a', c', rfl⟩ := f h2
    exact eqS_empty a a' c c' w
  · rcases h1.forms with ⟨_, h⟩ | ⟨g, cap, rfl, _⟩
    · exact absurd h hz
    rcases h2.forms with ⟨_, h⟩ | ⟨g', cap', rfl, _⟩
    · exact absurd h hz
    exact eqSO_full B B' g g' cap cap' zs w (by omega) h1 h2

/-- The marks of the stars from k on. -/
def markX (k : Nat) : StarV := ⟨mkT k, ((k + 1 : Nat) : Int), ((k + 2 : Nat) : Int), ((k + 3 : Nat) : Int), ((k + 4 : Nat) : Int)⟩
def marksS (k : Nat) (n : Nat) : List StarV := (List.range n).map (fun j => markX (k + 5 * j))
theorem marksS_len (k n : Nat) : (marksS k n).length = n := by simp [marksS]
theorem marksS_get (k n j : Nat) (hj : j < (marksS k n).length) : (marksS k n)[j] = markX (k + 5 * j) := by simp [marksS]
theorem marksS_succ (k n : Nat) : marksS k (n + 1) = marksS k n ++ [markX (k + 5 * n)] := by simp [marksS, List.range_succ]
def markedS (k : Nat) (zs : List StarV) (j : Nat) : List StarV := marksS k j ++ zs.drop j
theorem markedS_len (k : Nat) (zs : List StarV) (j : Nat) (h : j ≤ zs.length) : (markedS k zs j).length = zs.length := by
  unfold markedS
  rw [List.length_append, marksS_len, List.length_drop]
  omega
theorem markedS_set (k : Nat) (zs : List StarV) (j : Nat) (h : j < zs.length) : (markedS k zs j).set j (markX (k + 5 * j)) = markedS k zs (j + 1) := by
  unfold markedS
  rw [marksS_succ, List.drop_eq_getElem_cons h, List.set_append_right _ _ (by rw [marksS_len]; omega), marksS_len, Nat.sub_self, List.set_cons_zero, List.append_assoc]
  rfl
theorem markedS_done (k : Nat) (zs : List StarV) : markedS k zs zs.length = marksS k zs.length := by
  unfold markedS
  rw [List.drop_length, List.append_nil]
theorem markedS_zero (k : Nat) (zs : List StarV) : markedS k zs 0 = zs := by simp [markedS, marksS]

set_option maxHeartbeats 400000 in
theorem markSO_empty (a : Option Addr) (ca : Nat) (k : Int) (w : World) :
    Calls Try.prog 25 #[.slice a 0 ca, .int .i64 k] w fun e w' => e = .returned (.int .i64 k) ∧ w = w' := by
  go_enter Try.func25, Try.ntmps25
  go_wp2_with fail
  go_loop [1, 5] (fun t i => i = .int .i64 0 ∧ t = .int .i64 k) (fun _ _ => 0)
  case atStart => exact ⟨rfl, rfl⟩
  case round =>
    obtain ⟨rfl, rfl⟩ := hrel
    go_wp2_with fail
    go_ret
    exact ⟨rfl, rfl⟩
set_option maxRecDepth 100000 in
set_option maxHeartbeats 2000000 in
theorem markSO_full (k0 : Nat) (hk0 : 1 ≤ k0) (hk1 : k0 ≤ 2251799813685248) (B g cap : Nat) (zs : List StarV) (w : World) (hb : zs.length ≤ 1048577) (hB : B ≤ w.heap.size) (h1 : SOwn w B (.slice (some ⟨g, 0, none⟩) zs.length cap) zs) :
    Calls Try.prog 25 #[.slice (some ⟨g, 0, none⟩) zs.length cap, .int .i64 (k0 : Int)] w fun e w' => e = .returned (.int .i64 ((k0 : Int) + 5 * (zs.length : Int))) ∧ SOwn w' B (.slice (some ⟨g, 0, none⟩) zs.length cap) (marksS k0 zs.length) ∧ Below B w w' := by
  have hBg : B ≤ g := by
    rcases h1.forms with ⟨h, _⟩ | ⟨g', c', h, h', _⟩
    · cases h
    · injection h with h _ _
      injection h with h
      injection h with h
      omega
  have H1 : Hid (SOwn w B (.slice (some ⟨g, 0, none⟩) zs.length cap) (markedS k0 zs 0)) := Lib.hid (by rw [markedS_zero]; exact h1)
  have ML := Lib.hid (markedS_len k0 zs)
  have MS := Lib.hid (markedS_set k0 zs)
  have MD := Lib.hid (markedS_done k0 zs)
  clear h1
  generalize markedS k0 zs = M at *
  go_enter Try.func25, Try.ntmps25
  go_wp2_with fail
  go_loopg [1, 5] (zs.length + 1) (fun kx s1 s5 wr => ∃ (j : Nat), s1 = .int .i64 ((k0 : Int) + 5 * (j : Int)) ∧ s5 = .int .i64 (j : Int) ∧ j ≤ zs.length ∧ kx = zs.length + 1 - j ∧ Hid (SOwn wr B (.slice (some ⟨g, 0, none⟩) zs.length cap) (M j)) ∧ Hid (Below B w wr) ∧ w.heap.size ≤ wr.heap.size)
  case atStart => exact ⟨0, by go_num, rfl, Nat.zero_le _, rfl, H1, Lib.hid (Below.refl _ _), Nat.le_refl _⟩
  case round =>
    obtain ⟨j, rfl, rfl, hj, rfl, HR, HB, hws⟩ := hrel
    by_cases hlt : j < zs.length
    · have j0 : (0 : Int) ≤ (j : Int) := by omega
      have j1 : (j : Int) < (zs.length : Int) := by omega
      have hml := ML.out j hj
      have MX : Hid (markX (k0 + 5 * j) = ⟨mkT (k0 + 5 * j), (k0 : Int) + 5 * (j : Int) + 1, (k0 : Int) + 5 * (j : Int) + 1 + 1, (k0 : Int) + 5 * (j : Int) + 1 + 1 + 1, (k0 : Int) + 5 * (j : Int) + 1 + 1 + 1 + 1⟩) := Lib.hid (by
        show (⟨_, _, _, _, _⟩ : StarV) = _
        congr 1 <;> omega)
      go_wp2_with fail
      refine (markText_int _ (k0 + 5 * j) (by omega) _ (by omega) (by omega)).mono ?_
      rintro e w2 ⟨rfl, hb2⟩
      have hR2 := HR.out.keep hb2
      have HB2 := Lib.hid (HB.out.trans (hb2.mono (by omega)))
      have hs2 := hb2.size
      rw [← hml] at hR2
      obtain ⟨d0, d1, d2, d3, d4⟩ := hR2.at j (by omega)
      have f0 : w2.frozen? ⟨g, j * 5, none⟩ = false := World.ownsRow.frozenAt hR2 (j * 5)
      have f1 : w2.frozen? ⟨g, j * 5 + 1, none⟩ = false := World.ownsRow.frozenAt hR2 (j * 5 + 1)
      have f2 : w2.frozen? ⟨g, j * 5 + 2, none⟩ = false := World.ownsRow.frozenAt hR2 (j * 5 + 2)
      have f3 : w2.frozen? ⟨g, j * 5 + 3, none⟩ = false := World.ownsRow.frozenAt hR2 (j * 5 + 3)
      have f4 : w2.frozen? ⟨g, j * 5 + 4, none⟩ = false := World.ownsRow.frozenAt hR2 (j * 5 + 4)
      have PU : Hid (SOwn (putAt w2 g (j * 5) (markX (k0 + 5 * j))) B (.slice (some ⟨g, 0, none⟩) zs.length cap) (M (j + 1))) := Lib.hid (by
        have h := hR2.put j (by omega) (markX (k0 + 5 * j))
        rw [MS.out j hlt, hml] at h
        exact h)
      rw [MX.out] at PU
      generalize (M j)[j]'(by omega) = y at d0 d1 d2 d3 d4
      clear hb2 hR2 MX
      generalize mkT (k0 + 5 * j) = tx at *
      go_wp2_with fail
      go_roundg (zs.length + 1 - (j + 1))
      case measure => omega
      case rel => exact ⟨j + 1, by go_num, by go_num, by omega, by omega, PU, Lib.hid (putAt_below (x := ⟨_, _, _, _, _⟩) HB2.out hBg), Nat.le_trans hws (Nat.le_trans hs2 (putAt_below (x := ⟨_, _, _, _, _⟩) (Below.refl 0 w2) (Nat.zero_le g)).size)⟩
    · obtain rfl : j = zs.length := by omega
      have ho := HR.out
      rw [MD.out] at ho
      go_wp2_with fail
      go_ret
      exact ⟨ret_int (by omega), ho, HB.out⟩
theorem markSO_any (k0 : Nat) (hk0 : 1 ≤ k0) (hk1 : k0 ≤ 2251799813685248) {B : Nat} {v : Value} {zs : List StarV} {w : World} (hb : zs.length ≤ 1048577) (hB : B ≤ w.heap.size) (h1 : SOwn w B v zs) :
    Calls Try.prog 25 #[v, .int .i64 (k0 : Int)] w fun e w' => e = .returned (.int .i64 ((k0 : Int) + 5 * (zs.length : Int))) ∧ SOwn w' B v (marksS k0 zs.length) ∧ Below B w w' := by
  rcases h1.forms with ⟨rfl, rfl⟩ | ⟨g, cap, rfl, _⟩
  · refine (markSO_empty none 0 (k0 : Int) w).mono fun e w' ⟨he, hw⟩ => ?_
    subst hw
    exact ⟨by rw [he]; exact ret_int (by simp), h1, Below.refl _ _⟩
  · exact markSO_full k0 hk0 hk1 B g cap zs w hb hB h1

set_option maxHeartbeats 400000 in
theorem heldSO_empty (a : Option Addr) (ca : Nat) (k : Int) (w : World) :
    Calls Try.prog 26 #[.slice a 0 ca, .int .i64 k] w fun e w' => e = .returned (.int .i64 k) ∧ w = w' := by
  go_enter Try.func26, Try.ntmps26
  go_wp2_with fail
  go_loop [1, 5] (fun t i => i = .int .i64 0 ∧ t = .int .i64 k) (fun _ _ => 0)
  case atStart => exact ⟨rfl, rfl⟩
  case round =>
    obtain ⟨rfl, rfl⟩ := hrel
    go_wp2_with fail
    go_ret
    exact ⟨rfl, rfl⟩
set_option maxRecDepth 100000 in
set_option maxHeartbeats 2000000 in
theorem heldSO_full (k0 : Nat) (hk0 : 1 ≤ k0) (hk1 : k0 ≤ 2251799813685248) (B g cap n : Nat) (w : World) (hb : n ≤ 1048577) (h1 : SOwn w B (.slice (some ⟨g, 0, none⟩) n cap) (marksS k0 n)) :
    Calls Try.prog 26 #[.slice (some ⟨g, 0, none⟩) n cap, .int .i64 (k0 : Int)] w fun e w' => e = .returned (.int .i64 ((k0 : Int) + 5 * (n : Int))) ∧ Below w.heap.size w w' := by
  have ml := marksS_len k0 n
  have H1 : Hid (∀ j, j < n → StarAt w g (j * 5) (markX (k0 + 5 * j))) := Lib.hid (by
    intro j hj
    have h := h1
    rw [← ml] at h
    have := SOwn.at (zs := marksS k0 n) (by rw [ml] at h ⊢; exact h) j (by omega)
    rwa [marksS_get] at this)
  clear h1 ml
  go_enter Try.func26, Try.ntmps26
  go_wp2_with fail
  go_loopg [1, 5] (n + 1) (fun kx s1 s5 wr => ∃ (j : Nat), s1 = .int .i64 ((k0 : Int) + 5 * (j : Int)) ∧ s5 = .int .i64 (j : Int) ∧ j ≤ n ∧ kx = n + 1 - j ∧ Hid (Below w.heap.size w wr))
  case atStart => exact ⟨0, by go_num, rfl, Nat.zero_le _, rfl, Lib.hid (Below.refl _ _)⟩
  case round =>
    obtain ⟨j, rfl, rfl, hj, rfl, HB⟩ := hrel
    by_cases hlt : j < n
    · have j0 : (0 : Int) ≤ (j : Int) := by omega
      have j1 : (j : Int) < (n : Int) := by omega
      obtain ⟨c0, c1, c2, c3, c4⟩ := (H1.out j hlt).below HB.out
      have MX : markX (k0 + 5 * j) = ⟨mkT (k0 + 5 * j), (k0 : Int) + 5 * (j : Int) + 1, (k0 : Int) + 5 * (j : Int) + 1 + 1, (k0 : Int) + 5 * (j : Int) + 1 + 1 + 1, (k0 : Int) + 5 * (j : Int) + 1 + 1 + 1 + 1⟩ := by
        show (⟨_, _, _, _, _⟩ : StarV) = _
        congr 1 <;> omega
      rw [MX] at c0 c1 c2 c3 c4
      simp only at c0 c1 c2 c3 c4
      clear MX
      have MT := Lib.hid (fun W => markText_int ((k0 : Int) + 5 * (j : Int)) (k0 + 5 * j) (by omega) W (by omega) (by omega))
      generalize mkT (k0 + 5 * j) = tx at *
      have K : Hid (wr.cell? ⟨g, j * 5, none⟩ = some (.string tx) ∧ wr.cell? ⟨g, j * 5 + 1, none⟩ = some (.int .i64 ((k0 : Int) + 5 * (j : Int) + 1)) ∧ wr.cell? ⟨g, j * 5 + 2, none⟩ = some (.int .i64 ((k0 : Int) + 5 * (j : Int) + 1 + 1)) ∧ wr.cell? ⟨g, j * 5 + 3, none⟩ = some (.int .i64 ((k0 : Int) + 5 * (j : Int) + 1 + 1 + 1)) ∧ wr.cell? ⟨g, j * 5 + 4, none⟩ = some (.int .i64 ((k0 : Int) + 5 * (j : Int) + 1 + 1 + 1 + 1)) ∧ Below w.heap.size w wr) := Lib.hid ⟨c0, c1, c2, c3, c4, HB.out⟩
      clear c1 c2 c3 c4
      go_wp2_with fail
      go_region_held3 (fun W => W.cell? ⟨g, j * 5, none⟩ = some (.string tx) ∧ W.cell? ⟨g, j * 5 + 1, none⟩ = some (.int .i64 ((k0 : Int) + 5 * (j : Int) + 1)) ∧ W.cell? ⟨g, j * 5 + 2, none⟩ = some (.int .i64 ((k0 : Int) + 5 * (j : Int) + 1 + 1)) ∧ W.cell? ⟨g, j * 5 + 3, none⟩ = some (.int .i64 ((k0 : Int) + 5 * (j : Int) + 1 + 1 + 1)) ∧ W.cell? ⟨g, j * 5 + 4, none⟩ = some (.int .i64 ((k0 : Int) + 5 * (j : Int) + 1 + 1 + 1 + 1)) ∧ Below w.heap.size w W) (first | (exact keepW5 K.out (drewG wr)) | (exact keepW5 K.out y1) | go_keep) ((first
        | (go_at_call 66; refine (MT.out _).mono ?_; rintro e x1 ⟨rfl, hx1⟩; have y1 := undrewG hx1)))
      all_goals
        rename_i held
        obtain ⟨d0, d1, d2, d3, d4, hB⟩ := held
        have HH := Lib.hid hB
        clear K hB
        go_wp2_with fail
        go_roundg (n + 1 - (j + 1))
        case measure => omega
        case rel => exact ⟨j + 1, by go_num, by go_num, by omega, by omega, HH⟩
    · obtain rfl : j = n := by omega
      go_wp2_with fail
      go_ret
      exact ⟨ret_int (by omega), HB.out⟩
theorem heldSO_any (k0 : Nat) (hk0 : 1 ≤ k0) (hk1 : k0 ≤ 2251799813685248) {B n : Nat} {v : Value} {w : World} (hb : n ≤ 1048577) (h1 : SOwn w B v (marksS k0 n)) :
    Calls Try.prog 26 #[v, .int .i64 (k0 : Int)] w fun e w' => e = .returned (.int .i64 ((k0 : Int) + 5 * (n : Int))) ∧ Below w.heap.size w w' := by
  rcases h1.forms with ⟨rfl, h0⟩ | ⟨g, cap, rfl, _⟩
  · have : n = 0 := by have := marksS_len k0 n; rw [h0] at this; exact this.symm
    subst this
    refine (heldSO_empty none 0 (k0 : Int) w).mono fun e w' ⟨he, hw⟩ => ?_
    subst hw
    exact ⟨by rw [he]; exact ret_int (by simp), Below.refl _ _⟩
  · rw [marksS_len] at h1 ⊢
    exact heldSO_full k0 hk0 hk1 B g cap n w hb h1
end Go.Proofs.Ytfjhlapcopjfiaa
