/-
  The law's own helpers on Keys: toKey, eqKey, and sz, to, eq, mark and held of lists of them.
-/
import Derived.Test.YtdbocpcijkngpaaKyR
import Derived.Test.YtdbocpcijkngpaaKeep
import Derived.Deep.LoopGhost
import Derived.Deep.RegionHeld3
import Derived.RegionTactic
import Derived.Handy
namespace Go.Proofs.Ytdbocpcijkngpaa.Ky
open Go.RowKit
set_option linter.unusedVariables false

set_option maxHeartbeats 1000000 in
theorem to_any (x0 : Int) (x1 : Int) (w : World) :
    Calls Try.prog 31 #[.agg #[.int .i64 x0, .int .i64 x1]] w fun e w' => e = .returned (.agg #[.int .i64 x0, .int .i64 x1]) ∧ Below w.heap.size w w' := by
  go_enter Try.func31, Try.ntmps31
  go_wp2_with fail
  refine bodyPost_ret (v := .agg #[.int .i64 x0, .int .i64 x1]) (by first | (simp [results, Try.results31, go_sem]; done) | (simp [results, Try.results31, go_sem]; done)) rfl ⟨rfl, ?_⟩
  repeat (first | exact Below.refl _ _ | refine Below.setCell ?_ (by first | (simp; done) | omega | (simp; omega)) _ | refine Below.alloc ?_ (by first | (simp; done) | omega | (simp; omega)) _ | refine bel_drew ?_)
set_option maxHeartbeats 1000000 in
theorem eq_same (x0 : Int) (x1 : Int) (w : World) :
    Calls Try.prog 98 #[.agg #[.int .i64 x0, .int .i64 x1], .agg #[.int .i64 x0, .int .i64 x1]] w fun e w' => e = .returned (.bool true) ∧ Below w.heap.size w w' := by
  go_enter Try.func98, Try.ntmps98
  go_wp2_with fail
  go_ret
  refine ⟨rfl, ?_⟩
  repeat (first | exact Below.refl _ _ | refine Below.setCell ?_ (by first | (simp; done) | omega | (simp; omega)) _ | refine Below.alloc ?_ (by first | (simp; done) | omega | (simp; omega)) _ | refine bel_drew ?_)

/-- One lies in a box. -/
structure BAt (w : World) (b : Nat) (x0 : Int) (x1 : Int) : Prop where
  c0 : w.cell? ⟨b, 0, none⟩ = some (.int .i64 x0)
  c1 : w.cell? ⟨b, 1, none⟩ = some (.int .i64 x1)
theorem BAt.lt {w : World} {b : Nat} {x0 : Int} {x1 : Int} (h : BAt w b x0 x1) : b < w.heap.size := World.block_lt_of_cell? w ⟨b, 0, none⟩ h.c0
theorem BAt.mod {w w' : World} {b B C : Nat} {x0 : Int} {x1 : Int} (h : BAt w b x0 x1) (hm : Mod B C w w') (hd : b < B ∨ C ≤ b) : BAt w' b x0 x1 := ⟨hm.cell h.c0 hd, hm.cell h.c1 hd⟩
theorem BAt.below {w w' : World} {b : Nat} {x0 : Int} {x1 : Int} (h : BAt w b x0 x1) (hb : Below w.heap.size w w') : BAt w' b x0 x1 := h.mod (Mod.of_below (B := b + 1) (C := b + 1) hb) (Or.inl (Nat.lt_succ_self _))
theorem BAt.new (w : World) (x0 : Int) (x1 : Int) (T : TypeId) : BAt (w.alloc (.cells #[.int .i64 x0, .int .i64 x1] T)) w.heap.size x0 x1 := ⟨by simp, by simp⟩
/-- What sz of a list answers: below 0, or the list is short. -/
def SzPost (zs : List V) (l : Int) (w : World) (e : Ending) (w' : World) : Prop :=
  ∃ z : Int, e = .returned (.int .i64 z) ∧ -1 ≤ z ∧ z ≤ l ∧ (0 ≤ z → zs.length ≤ 1048576) ∧ Below w.heap.size w w'
set_option maxHeartbeats 1000000 in
theorem szS_any {v : Value} {zs : List V} (l : Int) (h0 : 0 ≤ l) (h1 : l ≤ 1048576) {w : World} (h : In w v zs) (hl : zs.length ≤ 9223372036854775807) :
    Calls Try.prog 54 #[v, .int .i64 l] w (SzPost zs l w) := by
  obtain ⟨a, cap, rfl⟩ := h.len
  clear h
  by_cases c : l - (zs.length : Int) < 0
  ·
    go_enter Try.func54, Try.ntmps54
    go_wp2_with fail
    go_ret
    exact ⟨_, rfl, by omega, by omega, fun h => by omega, Below.refl _ _⟩
  ·
    go_enter Try.func54, Try.ntmps54
    go_wp2_with fail
    go_ret
    exact ⟨_, rfl, by omega, by omega, fun h => by omega, Below.refl _ _⟩

/-- The call returned a new copy. -/
def ToPost (zs : List V) (w : World) (e : Ending) (w' : World) : Prop :=
  ∃ g, e = .returned (.slice (some ⟨g, 0, none⟩) zs.length zs.length) ∧ Own w' w.heap.size w'.heap.size (.slice (some ⟨g, 0, none⟩) zs.length zs.length) zs ∧ Below w.heap.size w w'
theorem own_made (w : World) (n : Nat) (hn : n ≤ maxLen) : Own (w.alloc (.cells (madeCells #[.int .i64 0, .int .i64 0] (n * 2)) 48)) w.heap.size (w.heap.size + 1) (.slice (some ⟨w.heap.size, 0, none⟩) n n) (List.replicate n zero) := by
  obtain ⟨m, F, hF, hm, hc⟩ := Row.made w n
  have h : (w.alloc (.cells (madeCells #[.int .i64 0, .int .i64 0] (n * 2)) 48)).rowIs w.heap.size 48 ((List.replicate n zero).length * 2) (rowF (List.replicate n zero)) := by
    rw [List.length_replicate]
    have h := World.rowIs_alloc w (madeCells #[.int .i64 0, .int .i64 0] (n * 2)) 48 F (by
      intro k hk
      obtain ⟨c, hb, hs, hx⟩ := hF
      have hbb := heap_alloc_new w (.cells (madeCells #[.int .i64 0, .int .i64 0] (n * 2)) 48)
      rw [hbb] at hb
      injection hb with hb
      injection hb with hb
      subst hb
      exact hx k (by rw [← hs]; exact hk))
    rw [size_madeCells] at h
    exact World.rowIs.congr h (fun k hk => hc k (by rw [List.length_replicate]; exact hk))
  have := Own.of_row h (by rw [List.length_replicate]; exact hn)
  rwa [List.length_replicate] at this

set_option maxHeartbeats 400000 in
theorem toS_empty (a : Option Addr) (cap : Nat) (w : World) :
    Calls Try.prog 56 #[.slice a 0 cap] w (ToPost [] w) := by
  have hmk : ∀ w, (Instr.makeSlice 27 (.int .i64 0) (.int .i64 0)).run Try.prog w = .ok (.slice (some ⟨w.heap.size, 0, none⟩) 0 0) (w.alloc (.cells #[] 48)) := fun _ => by kernel_rfl
  have MADE : Hid (Own (w.alloc (.cells #[] 48)) w.heap.size (w.alloc (.cells #[] 48)).heap.size (.slice (some ⟨w.heap.size, 0, none⟩) 0 0) []) := Lib.hid (Own.mk (World.ownsRow_made w #[] 0 (Nat.le_refl _) (Nat.zero_le _) rfl))
  go_enter Try.func56, Try.ntmps56
  go_wp2_with fail
  clear hmk
  go_loop [4] (fun i => i = .int .i64 0) (fun _ => 0)
  case atStart => rfl
  case round =>
    subst hrel
    go_wp2_with fail
    go_ret
    exact ⟨_, rfl, MADE.out, (Below.refl _ _).alloc (Nat.le_refl _) _⟩

set_option maxRecDepth 100000 in
set_option maxHeartbeats 1000000 in
theorem toS_full (b off cap : Nat) (zs : List V) (w : World) (hb : zs.length ≤ 1048576) (hc : ∀ j, (h : j < zs.length) → At w b (off + j * 2) zs[j] ∧ zs[j].ok) :
    Calls Try.prog 56 #[.slice (some ⟨b, off, none⟩) zs.length cap] w (ToPost zs w) := by
  have HC := Lib.hid hc
  clear hc
  have hmk := makes zs.length (by omega)
  have MADE := Lib.hid (own_made w zs.length (by unfold maxLen; omega))
  go_enter Try.func56, Try.ntmps56
  go_wp2_with fail
  clear hmk
  go_loopg [4] (zs.length + 1) (fun kx s4 wr => ∃ j : Nat, s4 = .int .i64 (j : Int) ∧ j ≤ zs.length ∧ kx = zs.length + 1 - j ∧ Hid (Own wr w.heap.size (w.heap.size + 1) (.slice (some ⟨w.heap.size, 0, none⟩) zs.length zs.length) (copyS zs j)) ∧ Hid (Below w.heap.size w wr))
  case atStart => exact ⟨0, rfl, Nat.zero_le _, rfl, MADE, Lib.hid ((Below.refl _ _).alloc (Nat.le_refl _) _)⟩
  case round =>
    obtain ⟨j, rfl, hj, rfl, HR, HB⟩ := hrel
    by_cases hlt : j < zs.length
    · obtain ⟨c0, c1⟩ := (HC.out j hlt).1.below HB.out
      have CS := Lib.hid (copyS_set zs j hlt)
      have CL := Lib.hid (copyS_len zs j hj)
      generalize zs[j] = x at *
      have PU := Lib.hid (fun (W : World) (h : Own W w.heap.size (w.heap.size + 1) (.slice (some ⟨w.heap.size, 0, none⟩) zs.length zs.length) (copyS zs j)) => Own.put h j (by rw [CL.out]; exact hlt) x)
      rw [CS.out] at PU
      obtain ⟨x0, x1⟩ := x
      have T := Lib.hid (fun w => to_any x0 x1 w)
      simp only at c0 c1
      have j0 : (0 : Int) ≤ (j : Int) := by omega
      have j1 : (j : Int) < (zs.length : Int) := by omega
      go_wp2_with fail
      refine (T.out _).mono ?_
      rintro e w1 ⟨rfl, hb1⟩
      have HB1 := Lib.hid (HB.out.trans (hb1.mono HB.out.size))
      have hR1 := HR.out.below hb1
      have HR1 := Lib.hid hR1
      obtain ⟨d0, d1⟩ := hR1.at j (by rw [CL.out]; exact hlt)
      have f0 := hR1.free (j * 2)
      have f1 := hR1.free (j * 2 + 1)
      generalize (copyS zs j)[j]'(by rw [CL.out]; exact hlt) = y at d0 d1
      clear hb1 hR1 c0 c1
      go_wp2_with fail
      go_roundg (zs.length + 1 - (j + 1))
      case measure => omega
      case rel => exact ⟨j + 1, by go_num, by omega, by omega, Lib.hid (PU.out w1 HR1.out), Lib.hid (putAt_below (x := ⟨x0, x1⟩) HB1.out (Nat.le_refl _))⟩
    · obtain rfl : j = zs.length := by omega
      have HR2 := HR.out
      rw [copyS_all] at HR2
      go_wp2_with fail
      go_ret
      exact ⟨_, rfl, HR2.le (Nat.le_refl _) (by have := HR2.bd.2.2.1; omega), HB.out⟩
theorem toS_any {v : Value} {zs : List V} {w : World} (h : In w v zs) (hb : zs.length ≤ 1048576) :
    Calls Try.prog 56 #[v] w (ToPost zs w) := by
  rcases h with ⟨a, cap, rfl, rfl⟩ | ⟨b, off, cap, rfl, _, hc⟩
  · exact toS_empty a cap w
  · exact toS_full b off cap zs w hb hc

set_option maxHeartbeats 400000 in
theorem eqS_empty (a a' : Option Addr) (cap cap' : Nat) (w : World) :
    Calls Try.prog 61 #[.slice a 0 cap, .slice a' 0 cap'] w fun e w' => e = .returned (.bool true) ∧ Below w.heap.size w w' := by
  go_enter Try.func61, Try.ntmps61
  go_wp2_with fail
  go_loop [5] (fun i => i = .int .i64 0) (fun _ => 0)
  case atStart => rfl
  case round =>
    subst hrel
    go_wp2_with fail
    go_ret
    exact ⟨rfl, Below.refl _ _⟩
set_option maxRecDepth 100000 in
set_option maxHeartbeats 1000000 in
theorem eqS_full (g g' cap cap' : Nat) (zs : List V) (w : World) (hb : zs.length ≤ 1048577) (h1 : Row w g zs) (h2 : Row w g' zs) :
    Calls Try.prog 61 #[.slice (some ⟨g, 0, none⟩) zs.length cap, .slice (some ⟨g', 0, none⟩) zs.length cap'] w fun e w' => e = .returned (.bool true) ∧ Below w.heap.size w w' := by
  have H1 := Lib.hid h1
  have H2 := Lib.hid h2
  clear h1 h2
  go_enter Try.func61, Try.ntmps61
  go_wp2_with fail
  go_loopg [5] (zs.length + 1) (fun kx s5 wr => ∃ j : Nat, s5 = .int .i64 (j : Int) ∧ j ≤ zs.length ∧ kx = zs.length + 1 - j ∧ Hid (Below w.heap.size w wr))
  case atStart => exact ⟨0, rfl, Nat.zero_le _, rfl, Lib.hid (Below.refl _ _)⟩
  case round =>
    obtain ⟨j, rfl, hj, rfl, HB⟩ := hrel
    by_cases hlt : j < zs.length
    · obtain ⟨c0, c1⟩ := (H1.out.below HB.out).at j hlt
      obtain ⟨d0, d1⟩ := (H2.out.below HB.out).at j hlt
      generalize zs[j] = x at *
      obtain ⟨x0, x1⟩ := x
      simp only at c0 c1 d0 d1
      have j0 : (0 : Int) ≤ (j : Int) := by omega
      have j1 : (j : Int) < (zs.length : Int) := by omega
      have E := Lib.hid (fun w => eq_same x0 x1 w)
      have K : Hid (wr.cell? ⟨g, j * 2, none⟩ = some (.int .i64 x0) ∧ wr.cell? ⟨g, j * 2 + 1, none⟩ = some (.int .i64 x1) ∧ wr.cell? ⟨g', j * 2, none⟩ = some (.int .i64 x0) ∧ wr.cell? ⟨g', j * 2 + 1, none⟩ = some (.int .i64 x1) ∧ Below w.heap.size w wr) := Lib.hid ⟨c0, c1, d0, d1, HB.out⟩
      go_wp2_with fail
      go_region_held3 (fun W => W.cell? ⟨g, j * 2, none⟩ = some (.int .i64 x0) ∧ W.cell? ⟨g, j * 2 + 1, none⟩ = some (.int .i64 x1) ∧ W.cell? ⟨g', j * 2, none⟩ = some (.int .i64 x0) ∧ W.cell? ⟨g', j * 2 + 1, none⟩ = some (.int .i64 x1) ∧ Below w.heap.size w W) (first | (exact keepW4 K.out (drewG wr)) | (exact keepW4 K.out y1) | go_keep) ((first
        | (go_at_call 98; refine (E.out _).mono ?_; rintro e x1 ⟨rfl, hx1⟩; have y1 := undrewG hx1)))
      rename_i held
      have HH := Lib.hid held.2.2.2.2
      clear held K
      go_wp2_with fail
      go_roundg (zs.length + 1 - (j + 1))
      case measure => omega
      case rel => exact ⟨j + 1, by go_num, by omega, by omega, HH⟩
    · obtain rfl : j = zs.length := by omega
      go_wp2_with fail
      go_ret
      exact ⟨rfl, HB.out⟩
theorem eqO_any {B B' C C' : Nat} {v u : Value} {zs : List V} {w : World} (hb : zs.length ≤ 1048576) (h1 : Own w B C v zs) (h2 : Own w B' C' u zs) :
    Calls Try.prog 61 #[v, u] w fun e w' => e = .returned (.bool true) ∧ Below w.heap.size w w' := by
  by_cases hz : zs = []
  · subst hz
    obtain ⟨a, c, rfl⟩ := h1.len
    obtain ⟨a', c', rfl⟩ := h2.len
    exact eqS_empty a a' c c' w
  · rcases h1.forms with ⟨_, h⟩ | ⟨g, cap, rfl, _⟩
    · exact absurd h hz
    rcases h2.forms with ⟨_, h⟩ | ⟨g', cap', rfl, _⟩
    · exact absurd h hz
    exact eqS_full g g' cap cap' zs w (by omega) h1.row h2.row

/-- The marks from k on. -/
def markX (k : Nat) : V := ⟨(k : Int), ((k + 1 : Nat) : Int)⟩
def marksS (k : Nat) (n : Nat) : List V := (List.range n).map (fun j => markX (k + 2 * j))
theorem marksS_len (k n : Nat) : (marksS k n).length = n := by simp [marksS]
theorem marksS_get (k n j : Nat) (hj : j < (marksS k n).length) : (marksS k n)[j] = markX (k + 2 * j) := by simp [marksS]
theorem marksS_succ (k n : Nat) : marksS k (n + 1) = marksS k n ++ [markX (k + 2 * n)] := by simp [marksS, List.range_succ]
def markedS (k : Nat) (zs : List V) (j : Nat) : List V := marksS k j ++ zs.drop j
theorem markedS_len (k : Nat) (zs : List V) (j : Nat) (h : j ≤ zs.length) : (markedS k zs j).length = zs.length := by
  unfold markedS
  rw [List.length_append, marksS_len, List.length_drop]
  omega
theorem markedS_set (k : Nat) (zs : List V) (j : Nat) (h : j < zs.length) : (markedS k zs j).set j (markX (k + 2 * j)) = markedS k zs (j + 1) := by
  unfold markedS
  rw [marksS_succ, List.drop_eq_getElem_cons h, List.set_append_right _ _ (by rw [marksS_len]; omega), marksS_len, Nat.sub_self, List.set_cons_zero, List.append_assoc]
  rfl
theorem markedS_done (k : Nat) (zs : List V) : markedS k zs zs.length = marksS k zs.length := by
  unfold markedS
  rw [List.drop_length, List.append_nil]
theorem markedS_zero (k : Nat) (zs : List V) : markedS k zs 0 = zs := by simp [markedS, marksS]

set_option maxHeartbeats 400000 in
theorem markO_empty (a : Option Addr) (ca : Nat) (k : Int) (w : World) :
    Calls Try.prog 74 #[.slice a 0 ca, .int .i64 k] w fun e w' => e = .returned (.int .i64 k) ∧ w = w' := by
  go_enter Try.func74, Try.ntmps74
  go_wp2_with fail
  go_loop [1, 5] (fun t i => i = .int .i64 0 ∧ t = .int .i64 k) (fun _ _ => 0)
  case atStart => exact ⟨rfl, rfl⟩
  case round =>
    obtain ⟨rfl, rfl⟩ := hrel
    go_wp2_with fail
    go_ret
    exact ⟨rfl, rfl⟩
set_option maxRecDepth 100000 in
set_option maxHeartbeats 2000000 in
theorem markO_full (k0 : Nat) (hk0 : 1 ≤ k0) (hk1 : k0 ≤ 2251799813685248) (B C g cap : Nat) (zs : List V) (w : World) (hb : zs.length ≤ 1048577) (h1 : Own w B C (.slice (some ⟨g, 0, none⟩) zs.length cap) zs) :
    Calls Try.prog 74 #[.slice (some ⟨g, 0, none⟩) zs.length cap, .int .i64 (k0 : Int)] w fun e w' => e = .returned (.int .i64 ((k0 : Int) + 2 * (zs.length : Int))) ∧ Own w' B C (.slice (some ⟨g, 0, none⟩) zs.length cap) (marksS k0 zs.length) ∧ Mod B C w w' := by
  have hBg := h1.bd
  have H1 : Hid (Own w B C (.slice (some ⟨g, 0, none⟩) zs.length cap) (markedS k0 zs 0)) := Lib.hid (by rw [markedS_zero]; exact h1)
  have ML := Lib.hid (markedS_len k0 zs)
  have MS := Lib.hid (markedS_set k0 zs)
  have MD := Lib.hid (markedS_done k0 zs)
  clear h1
  generalize markedS k0 zs = M at *
  go_enter Try.func74, Try.ntmps74
  go_wp2_with fail
  go_loopg [1, 5] (zs.length + 1) (fun kx s1 s5 wr => ∃ (j : Nat), s1 = .int .i64 ((k0 : Int) + 2 * (j : Int)) ∧ s5 = .int .i64 (j : Int) ∧ j ≤ zs.length ∧ kx = zs.length + 1 - j ∧ Hid (Own wr B C (.slice (some ⟨g, 0, none⟩) zs.length cap) (M j)) ∧ Hid (Mod B C w wr))
  case atStart => exact ⟨0, by go_num, rfl, Nat.zero_le _, rfl, H1, Lib.hid (Mod.refl _ _ _)⟩
  case round =>
    obtain ⟨j, rfl, rfl, hj, rfl, HR, HB⟩ := hrel
    by_cases hlt : j < zs.length
    · have j0 : (0 : Int) ≤ (j : Int) := by omega
      have j1 : (j : Int) < (zs.length : Int) := by omega
      have hml := ML.out j hj
      have MX : Hid (markX (k0 + 2 * j) = ⟨(k0 : Int) + 2 * (j : Int), (k0 : Int) + 2 * (j : Int) + 1⟩) := Lib.hid (by
        unfold markX
        congr 1 <;> omega)
      have hR2 := HR.out
      obtain ⟨d0, d1⟩ := hR2.at j (by omega)
      have f0 := hR2.free (j * 2)
      have f1 := hR2.free (j * 2 + 1)
      have PU : Hid (Own (putAt wr g (j * 2) (markX (k0 + 2 * j))) B C (.slice (some ⟨g, 0, none⟩) zs.length cap) (M (j + 1))) := Lib.hid (by
        have h := hR2.put j (by omega) (markX (k0 + 2 * j))
        rw [MS.out j hlt] at h
        exact h)
      have PM : Hid (Mod B C w (putAt wr g (j * 2) (markX (k0 + 2 * j)))) := Lib.hid (HB.out.trans ((putAt_mod wr g (j * 2) _).wide (by omega) (by omega)))
      rw [MX.out] at PU PM
      generalize (M j)[j]'(by omega) = y at d0 d1
      clear hR2 MX
      go_wp2_with fail
      go_roundg (zs.length + 1 - (j + 1))
      case measure => omega
      case rel => exact ⟨j + 1, by go_num, by go_num, by omega, by omega, PU, PM⟩
    · obtain rfl : j = zs.length := by omega
      have ho := HR.out
      rw [MD.out] at ho
      go_wp2_with fail
      go_ret
      exact ⟨ret_int (by omega), ho, HB.out⟩
theorem markO_any (k0 : Nat) (hk0 : 1 ≤ k0) (hk1 : k0 ≤ 2251799813685248) {B C : Nat} {v : Value} {zs : List V} {w : World} (hb : zs.length ≤ 1048577) (h1 : Own w B C v zs) :
    Calls Try.prog 74 #[v, .int .i64 (k0 : Int)] w fun e w' => e = .returned (.int .i64 ((k0 : Int) + 2 * (zs.length : Int))) ∧ Own w' B C v (marksS k0 zs.length) ∧ Mod B C w w' := by
  rcases h1.forms with ⟨rfl, rfl⟩ | ⟨g, cap, rfl, _⟩
  · refine (markO_empty none 0 (k0 : Int) w).mono fun e w' ⟨he, hw⟩ => ?_
    subst hw
    exact ⟨by rw [he]; exact ret_int (by simp), h1, Mod.refl _ _ _⟩
  · exact markO_full k0 hk0 hk1 B C g cap zs w hb h1

set_option maxHeartbeats 400000 in
theorem heldO_empty (a : Option Addr) (ca : Nat) (k : Int) (w : World) :
    Calls Try.prog 75 #[.slice a 0 ca, .int .i64 k] w fun e w' => e = .returned (.int .i64 k) ∧ w = w' := by
  go_enter Try.func75, Try.ntmps75
  go_wp2_with fail
  go_loop [1, 5] (fun t i => i = .int .i64 0 ∧ t = .int .i64 k) (fun _ _ => 0)
  case atStart => exact ⟨rfl, rfl⟩
  case round =>
    obtain ⟨rfl, rfl⟩ := hrel
    go_wp2_with fail
    go_ret
    exact ⟨rfl, rfl⟩
set_option maxRecDepth 100000 in
set_option maxHeartbeats 2000000 in
theorem heldO_full (k0 : Nat) (hk0 : 1 ≤ k0) (hk1 : k0 ≤ 2251799813685248) (B C g cap n : Nat) (w : World) (hb : n ≤ 1048577) (h1 : Own w B C (.slice (some ⟨g, 0, none⟩) n cap) (marksS k0 n)) :
    Calls Try.prog 75 #[.slice (some ⟨g, 0, none⟩) n cap, .int .i64 (k0 : Int)] w fun e w' => e = .returned (.int .i64 ((k0 : Int) + 2 * (n : Int))) ∧ w = w' := by
  have H1 : Hid (∀ j, j < n → At w g (j * 2) (markX (k0 + 2 * j))) := Lib.hid (by
    intro j hj
    have := h1.at j (by rw [marksS_len]; exact hj)
    rwa [marksS_get] at this)
  clear h1
  go_enter Try.func75, Try.ntmps75
  go_wp2_with fail
  go_loop [1, 5] (fun t i => ∃ j : Nat, i = .int .i64 (j : Int) ∧ t = .int .i64 ((k0 : Int) + 2 * (j : Int)) ∧ j ≤ n) (fun _ i => n - (intOf i).toNat)
  case atStart => exact ⟨0, rfl, by go_num, Nat.zero_le _⟩
  case round =>
    obtain ⟨j, rfl, rfl, hj⟩ := hrel
    by_cases hlt : j < n
    · have j0 : (0 : Int) ≤ (j : Int) := by omega
      have j1 : (j : Int) < (n : Int) := by omega
      have MX : markX (k0 + 2 * j) = ⟨(k0 : Int) + 2 * (j : Int), (k0 : Int) + 2 * (j : Int) + 1⟩ := by
        unfold markX
        congr 1 <;> omega
      obtain ⟨c0, c1⟩ := H1.out j hlt
      rw [MX] at c0 c1
      simp only at c0 c1
      clear MX
      go_wp2_with fail
      go_round
      case rel => exact ⟨j + 1, by go_num, by go_num, by omega⟩
      case measure => (simp [intOf] <;> omega)
    · obtain rfl : j = n := by omega
      go_wp2_with fail
      go_ret
      exact ⟨ret_int (by omega), rfl⟩
theorem heldO_any (k0 : Nat) (hk0 : 1 ≤ k0) (hk1 : k0 ≤ 2251799813685248) {B C n : Nat} {v : Value} {w : World} (hb : n ≤ 1048577) (h1 : Own w B C v (marksS k0 n)) :
    Calls Try.prog 75 #[v, .int .i64 (k0 : Int)] w fun e w' => e = .returned (.int .i64 ((k0 : Int) + 2 * (n : Int))) ∧ w = w' := by
  rcases h1.forms with ⟨rfl, h0⟩ | ⟨g, cap, rfl, _⟩
  · have : n = 0 := by have := marksS_len k0 n; rw [h0] at this; exact this.symm
    subst this
    refine (heldO_empty none 0 (k0 : Int) w).mono fun e w' ⟨he, hw⟩ => ?_
    exact ⟨by rw [he]; exact ret_int (by simp), hw⟩
  · rw [marksS_len] at h1 ⊢
    exact heldO_full k0 hk0 hk1 B C g cap n w hb h1
theorem markO_int (m : Int) (k0 : Nat) (hn : m = (k0 : Int)) (hk0 : 1 ≤ k0) (hk1 : k0 ≤ 2251799813685248) {B C : Nat} {v : Value} {zs : List V} {w : World} (hb : zs.length ≤ 1048577) (h1 : Own w B C v zs) :
    Calls Try.prog 74 #[v, .int .i64 m] w fun e w' => e = .returned (.int .i64 ((k0 : Int) + 2 * (zs.length : Int))) ∧ Own w' B C v (marksS k0 zs.length) ∧ Mod B C w w' := by
  subst hn
  exact markO_any k0 hk0 hk1 hb h1
theorem heldO_int (m : Int) (k0 : Nat) (hn : m = (k0 : Int)) (hk0 : 1 ≤ k0) (hk1 : k0 ≤ 2251799813685248) {B C n : Nat} {v : Value} {w : World} (hb : n ≤ 1048577) (h1 : Own w B C v (marksS k0 n)) :
    Calls Try.prog 75 #[v, .int .i64 m] w fun e w' => e = .returned (.int .i64 ((k0 : Int) + 2 * (n : Int))) ∧ w = w' := by
  subst hn
  exact heldO_any k0 hk0 hk1 hb h1
end Go.Proofs.Ytdbocpcijkngpaa.Ky
