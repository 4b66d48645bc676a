/-
  The law's own helpers on Lines: toLine, eqLine, and sz, to, eq, mark and held of lists of them.
-/
import Derived.Test.YtpjccaapnglomaaLnR
import Derived.Test.YtpjccaapnglomaaKeep
import Derived.Test.YtpjccaapnglomaaMkTx
import Derived.Deep.LoopGhost
import Derived.Deep.RegionHeld3
import Derived.RegionTactic
import Derived.Handy
namespace Go.Proofs.Ytpjccaapnglomaa.Ln
open Go.RowKit
set_option linter.unusedVariables false

set_option maxHeartbeats 1000000 in
theorem to_any (x0 : Int) (x1 : ByteArray) (x2 : Int) (w : World) :
    Calls Try.prog 11 #[.agg #[.int .i64 x0, .string x1, .int .i64 x2]] w fun e w' => e = .returned (.agg #[.int .i64 x0, .string x1, .int .i64 x2]) ∧ Below w.heap.size w w' := by
  go_enter Try.func11, Try.ntmps11
  go_wp2_with fail
  refine bodyPost_ret (v := .agg #[.int .i64 x0, .string x1, .int .i64 x2]) (by first | (simp [results, Try.results11, go_sem]; done) | (simp [results, Try.results11, go_sem]; done)) rfl ⟨rfl, ?_⟩
  repeat (first | exact Below.refl _ _ | refine Below.setCell ?_ (by first | (simp; done) | omega | (simp; omega)) _ | refine Below.alloc ?_ (by first | (simp; done) | omega | (simp; omega)) _ | refine bel_drew ?_)
set_option maxHeartbeats 1000000 in
theorem eq_same (x0 : Int) (x1 : ByteArray) (x2 : Int) (w : World) :
    Calls Try.prog 13 #[.agg #[.int .i64 x0, .string x1, .int .i64 x2], .agg #[.int .i64 x0, .string x1, .int .i64 x2]] w fun e w' => e = .returned (.bool true) ∧ Below w.heap.size w w' := by
  go_enter Try.func13, Try.ntmps13
  go_wp2_with fail
  go_ret
  refine ⟨rfl, ?_⟩
  repeat (first | exact Below.refl _ _ | refine Below.setCell ?_ (by first | (simp; done) | omega | (simp; omega)) _ | refine Below.alloc ?_ (by first | (simp; done) | omega | (simp; omega)) _ | refine bel_drew ?_)

/-- One lies in a box. -/
structure BAt (w : World) (b : Nat) (x0 : Int) (x1 : ByteArray) (x2 : Int) : Prop where
  c0 : w.cell? ⟨b, 0, none⟩ = some (.int .i64 x0)
  c1 : w.cell? ⟨b, 1, none⟩ = some (.string x1)
  c2 : w.cell? ⟨b, 2, none⟩ = some (.int .i64 x2)
theorem BAt.lt {w : World} {b : Nat} {x0 : Int} {x1 : ByteArray} {x2 : Int} (h : BAt w b x0 x1 x2) : b < w.heap.size := World.block_lt_of_cell? w ⟨b, 0, none⟩ h.c0
theorem BAt.mod {w w' : World} {b B C : Nat} {x0 : Int} {x1 : ByteArray} {x2 : Int} (h : BAt w b x0 x1 x2) (hm : Mod B C w w') (hd : b < B ∨ C ≤ b) : BAt w' b x0 x1 x2 := ⟨hm.cell h.c0 hd, hm.cell h.c1 hd, hm.cell h.c2 hd⟩
theorem BAt.below {w w' : World} {b : Nat} {x0 : Int} {x1 : ByteArray} {x2 : Int} (h : BAt w b x0 x1 x2) (hb : Below w.heap.size w w') : BAt w' b x0 x1 x2 := h.mod (Mod.of_below (B := b + 1) (C := b + 1) hb) (Or.inl (Nat.lt_succ_self _))
theorem BAt.new (w : World) (x0 : Int) (x1 : ByteArray) (x2 : Int) (T : TypeId) : BAt (w.alloc (.cells #[.int .i64 x0, .string x1, .int .i64 x2] T)) w.heap.size x0 x1 x2 := ⟨by simp, by simp, by simp⟩
/-- What sz of a list answers: below 0, or the list is short. -/
def SzPost (zs : List V) (l : Int) (w : World) (e : Ending) (w' : World) : Prop :=
  ∃ z : Int, e = .returned (.int .i64 z) ∧ -1 ≤ z ∧ z ≤ l ∧ (0 ≤ z → zs.length ≤ 1048576) ∧ Below w.heap.size w w'
set_option maxHeartbeats 1000000 in
theorem szOne_any (x0 : Int) (x1 : ByteArray) (x2 : Int) (l : Int) (h0 : 0 ≤ l) (h1 : l ≤ 1048576) (m1 : x1.size ≤ maxLen) (w : World) :
    Calls Try.prog 9 #[.agg #[.int .i64 x0, .string x1, .int .i64 x2], .int .i64 l] w fun e w' => ∃ z : Int, e = .returned (.int .i64 z) ∧ -1 ≤ z ∧ z ≤ l ∧ (0 ≤ z → x1.size ≤ 1048576) ∧ Below w.heap.size w w' := by
  have k1 : x1.size ≤ 9223372036854775807 := by unfold maxLen at m1; omega
  clear m1
  by_cases c1 : l - (x1.size : Int) < 0
  ·
    go_enter Try.func9, Try.ntmps9
    go_wp2_with fail
    go_ret
    refine ⟨_, rfl, by omega, by omega, fun h => by omega, ?_⟩
    repeat (first | exact Below.refl _ _ | refine Below.setCell ?_ (by first | (simp; done) | omega | (simp; omega)) _ | refine Below.alloc ?_ (by first | (simp; done) | omega | (simp; omega)) _ | refine bel_drew ?_)
  · have d1 : decide (l - (x1.size : Int) < 0) = false := by simpa using c1
    go_enter Try.func9, Try.ntmps9
    go_wp2_with fail
    go_ret
    refine ⟨_, rfl, by omega, by omega, fun h => by omega, ?_⟩
    repeat (first | exact Below.refl _ _ | refine Below.setCell ?_ (by first | (simp; done) | omega | (simp; omega)) _ | refine Below.alloc ?_ (by first | (simp; done) | omega | (simp; omega)) _ | refine bel_drew ?_)

set_option maxRecDepth 100000 in
set_option maxHeartbeats 1000000 in
theorem szS_empty (a : Option Addr) (cap : Nat) (l : Int) (h0 : 0 ≤ l) (h1 : l ≤ 1048576) (w : World) :
    Calls Try.prog 4 #[.slice a 0 cap, .int .i64 l] w (SzPost [] l w) := by
  go_enter Try.func4, Try.ntmps4
  go_wp2_with fail
  go_loop [1, 5] (fun s1 i => s1 = .int .i64 l ∧ i = .int .i64 0) (fun _ _ => 0)
  case atStart => exact ⟨rfl, rfl⟩
  case round =>
    obtain ⟨rfl, rfl⟩ := hrel
    go_wp2_with fail
    go_ret
    exact ⟨l, rfl, by omega, by omega, fun _ => by simp, Below.refl _ _⟩

set_option maxRecDepth 100000 in
set_option maxHeartbeats 1000000 in
theorem szS_full (b off cap : Nat) (zs : List V) (l : Int) (h0 : 0 ≤ l) (h1 : l ≤ 1048576) (w : World) (hl : zs.length ≤ 9223372036854775807)
    (hc : ∀ j, (h : j < zs.length) → At w b (off + j * 3) zs[j] ∧ zs[j].ok) :
    Calls Try.prog 4 #[.slice (some ⟨b, off, none⟩) zs.length cap, .int .i64 l] w (SzPost zs l w) := by
  have HC := Lib.hid hc
  clear hc
  by_cases hneg : l - (zs.length : Int) < 0
  ·
    go_enter Try.func4, Try.ntmps4
    go_wp2_with fail
    go_ret
    exact ⟨-1, rfl, by omega, by omega, fun h => by omega, Below.refl _ _⟩
  · have hlen : zs.length ≤ 1048576 := by omega
    go_enter Try.func4, Try.ntmps4
    go_wp2_with fail
    go_loopg [1, 5] (zs.length + 1) (fun kx s1 s5 wr => ∃ (i : Nat) (z : Int), i ≤ zs.length ∧ kx = zs.length + 1 - i ∧ s1 = .int .i64 z ∧ s5 = .int .i64 (i : Int) ∧ 0 ≤ z ∧ z ≤ l ∧ Hid (Below w.heap.size w wr))
    case atStart => exact ⟨0, l - (zs.length : Int), Nat.zero_le _, rfl, rfl, rfl, by omega, by omega, Lib.hid (Below.refl _ _)⟩
    case round =>
      obtain ⟨i, z, hi, rfl, rfl, rfl, hz0, hz1, HR⟩ := hrel
      by_cases hlt : i < zs.length
      · obtain ⟨hat, hok⟩ := HC.out i hlt
        obtain ⟨c0, c1, c2⟩ := hat.below HR.out
        have SZ := Lib.hid (fun w => szOne_any zs[i].f0 zs[i].f1 zs[i].f2 z hz0 (by omega) hok.2.1 w)
        clear hok hat
        generalize zs[i] = x at *
        obtain ⟨x0, x1, x2⟩ := x
        simp only at c0 c1 c2
        have i0 : (0 : Int) ≤ (i : Int) := by omega
        have i1 : (i : Int) < (zs.length : Int) := by omega
        go_wp2_with fail
        refine (SZ.out _).mono ?_
        rintro e w1 ⟨y, rfl, hy0, hy1, hy2, hb⟩
        have HB1 := Lib.hid (HR.out.trans (hb.mono HR.out.size))
        clear hb hy2
        by_cases hy : y < 0
        · go_wp2_with fail
          go_ret
          exact ⟨-1, rfl, by omega, by omega, fun h => by omega, HB1.out⟩
        · go_wp2_with fail
          go_roundg (zs.length + 1 - (i + 1))
          case measure => omega
          case rel => exact ⟨i + 1, y, by omega, by omega, rfl, by go_num, by omega, by omega, HB1⟩
      · obtain rfl : i = zs.length := by omega
        go_wp2_with fail
        go_ret
        exact ⟨z, rfl, by omega, hz1, fun _ => hlen, HR.out⟩
theorem szS_any {v : Value} {zs : List V} (l : Int) (h0 : 0 ≤ l) (h1 : l ≤ 1048576) {w : World} (h : In w v zs) (hl : zs.length ≤ 9223372036854775807) :
    Calls Try.prog 4 #[v, .int .i64 l] w (SzPost zs l w) := by
  rcases h with ⟨a, cap, rfl, rfl⟩ | ⟨b, off, cap, rfl, _, hc⟩
  · exact szS_empty a cap l h0 h1 w
  · exact szS_full b off cap zs l h0 h1 w hl hc

/-- The call returned a new copy. -/
def ToPost (zs : List V) (w : World) (e : Ending) (w' : World) : Prop :=
  ∃ g, e = .returned (.slice (some ⟨g, 0, none⟩) zs.length zs.length) ∧ Own w' w.heap.size w'.heap.size (.slice (some ⟨g, 0, none⟩) zs.length zs.length) zs ∧ Below w.heap.size w w'
theorem own_made (w : World) (n : Nat) (hn : n ≤ maxLen) : Own (w.alloc (.cells (madeCells #[.int .i64 0, .string ByteArray.empty, .int .i64 0] (n * 3)) 31)) w.heap.size (w.heap.size + 1) (.slice (some ⟨w.heap.size, 0, none⟩) n n) (List.replicate n zero) := by
  obtain ⟨m, F, hF, hm, hc⟩ := Row.made w n
  have h : (w.alloc (.cells (madeCells #[.int .i64 0, .string ByteArray.empty, .int .i64 0] (n * 3)) 31)).rowIs w.heap.size 31 ((List.replicate n zero).length * 3) (rowF (List.replicate n zero)) := by
    rw [List.length_replicate]
    have h := World.rowIs_alloc w (madeCells #[.int .i64 0, .string ByteArray.empty, .int .i64 0] (n * 3)) 31 F (by
      intro k hk
      obtain ⟨c, hb, hs, hx⟩ := hF
      have hbb := heap_alloc_new w (.cells (madeCells #[.int .i64 0, .string ByteArray.empty, .int .i64 0] (n * 3)) 31)
      rw [hbb] at hb
      injection hb with hb
      injection hb with hb
      subst hb
      exact hx k (by rw [← hs]; exact hk))
    rw [size_madeCells] at h
    exact World.rowIs.congr h (fun k hk => hc k (by rw [List.length_replicate]; exact hk))
  have := Own.of_row h (by rw [List.length_replicate]; exact hn)
  rwa [List.length_replicate] at this

set_option maxHeartbeats 400000 in
theorem toS_empty (a : Option Addr) (cap : Nat) (w : World) :
    Calls Try.prog 6 #[.slice a 0 cap] w (ToPost [] w) := by
  have hmk : ∀ w, (Instr.makeSlice 25 (.int .i64 0) (.int .i64 0)).run Try.prog w = .ok (.slice (some ⟨w.heap.size, 0, none⟩) 0 0) (w.alloc (.cells #[] 31)) := fun _ => by kernel_rfl
  have MADE : Hid (Own (w.alloc (.cells #[] 31)) w.heap.size (w.alloc (.cells #[] 31)).heap.size (.slice (some ⟨w.heap.size, 0, none⟩) 0 0) []) := Lib.hid (Own.mk (World.ownsRow_made w #[] 0 (Nat.le_refl _) (Nat.zero_le _) rfl))
  go_enter Try.func6, Try.ntmps6
  go_wp2_with fail
  clear hmk
  go_loop [4] (fun i => i = .int .i64 0) (fun _ => 0)
  case atStart => rfl
  case round =>
    subst hrel
    go_wp2_with fail
    go_ret
    exact ⟨_, rfl, MADE.out, (Below.refl _ _).alloc (Nat.le_refl _) _⟩

set_option maxRecDepth 100000 in
set_option maxHeartbeats 1000000 in
theorem toS_full (b off cap : Nat) (zs : List V) (w : World) (hb : zs.length ≤ 1048576) (hc : ∀ j, (h : j < zs.length) → At w b (off + j * 3) zs[j] ∧ zs[j].ok) :
    Calls Try.prog 6 #[.slice (some ⟨b, off, none⟩) zs.length cap] w (ToPost zs w) := by
  have HC := Lib.hid hc
  clear hc
  have hmk := makes zs.length (by omega)
  have MADE := Lib.hid (own_made w zs.length (by unfold maxLen; omega))
  go_enter Try.func6, Try.ntmps6
  go_wp2_with fail
  clear hmk
  go_loopg [4] (zs.length + 1) (fun kx s4 wr => ∃ j : Nat, s4 = .int .i64 (j : Int) ∧ j ≤ zs.length ∧ kx = zs.length + 1 - j ∧ Hid (Own wr w.heap.size (w.heap.size + 1) (.slice (some ⟨w.heap.size, 0, none⟩) zs.length zs.length) (copyS zs j)) ∧ Hid (Below w.heap.size w wr))
  case atStart => exact ⟨0, rfl, Nat.zero_le _, rfl, MADE, Lib.hid ((Below.refl _ _).alloc (Nat.le_refl _) _)⟩
  case round =>
    obtain ⟨j, rfl, hj, rfl, HR, HB⟩ := hrel
    by_cases hlt : j < zs.length
    · obtain ⟨c0, c1, c2⟩ := (HC.out j hlt).1.below HB.out
      have CS := Lib.hid (copyS_set zs j hlt)
      have CL := Lib.hid (copyS_len zs j hj)
      generalize zs[j] = x at *
      have PU := Lib.hid (fun (W : World) (h : Own W w.heap.size (w.heap.size + 1) (.slice (some ⟨w.heap.size, 0, none⟩) zs.length zs.length) (copyS zs j)) => Own.put h j (by rw [CL.out]; exact hlt) x)
      rw [CS.out] at PU
      obtain ⟨x0, x1, x2⟩ := x
      have T := Lib.hid (fun w => to_any x0 x1 x2 w)
      simp only at c0 c1 c2
      have j0 : (0 : Int) ≤ (j : Int) := by omega
      have j1 : (j : Int) < (zs.length : Int) := by omega
      go_wp2_with fail
      refine (T.out _).mono ?_
      rintro e w1 ⟨rfl, hb1⟩
      have HB1 := Lib.hid (HB.out.trans (hb1.mono HB.out.size))
      have hR1 := HR.out.below hb1
      have HR1 := Lib.hid hR1
      obtain ⟨d0, d1, d2⟩ := hR1.at j (by rw [CL.out]; exact hlt)
      have f0 := hR1.free (j * 3)
      have f1 := hR1.free (j * 3 + 1)
      have f2 := hR1.free (j * 3 + 2)
      generalize (copyS zs j)[j]'(by rw [CL.out]; exact hlt) = y at d0 d1 d2
      clear hb1 hR1 c0 c1 c2
      go_wp2_with fail
      go_roundg (zs.length + 1 - (j + 1))
      case measure => omega
      case rel => exact ⟨j + 1, by go_num, by omega, by omega, Lib.hid (PU.out w1 HR1.out), Lib.hid (putAt_below (x := ⟨x0, x1, x2⟩) HB1.out (Nat.le_refl _))⟩
    · obtain rfl : j = zs.length := by omega
      have HR2 := HR.out
      rw [copyS_all] at HR2
      go_wp2_with fail
      go_ret
      exact ⟨_, rfl, HR2.le (Nat.le_refl _) (by have := HR2.bd.2.2.1; omega), HB.out⟩
theorem toS_any {v : Value} {zs : List V} {w : World} (h : In w v zs) (hb : zs.length ≤ 1048576) :
    Calls Try.prog 6 #[v] w (ToPost zs w) := by
  rcases h with ⟨a, cap, rfl, rfl⟩ | ⟨b, off, cap, rfl, _, hc⟩
  · exact toS_empty a cap w
  · exact toS_full b off cap zs w hb hc

set_option maxHeartbeats 400000 in
theorem eqS_empty (a a' : Option Addr) (cap cap' : Nat) (w : World) :
    Calls Try.prog 8 #[.slice a 0 cap, .slice a' 0 cap'] w fun e w' => e = .returned (.bool true) ∧ Below w.heap.size w w' := by
  go_enter Try.func8, Try.ntmps8
  go_wp2_with fail
  go_loop [5] (fun i => i = .int .i64 0) (fun _ => 0)
  case atStart => rfl
  case round =>
    subst hrel
    go_wp2_with fail
    go_ret
    exact ⟨rfl, Below.refl _ _⟩
set_option maxRecDepth 100000 in
set_option maxHeartbeats 1000000 in
theorem eqS_full (g g' cap cap' : Nat) (zs : List V) (w : World) (hb : zs.length ≤ 1048577) (h1 : Row w g zs) (h2 : Row w g' zs) :
    Calls Try.prog 8 #[.slice (some ⟨g, 0, none⟩) zs.length cap, .slice (some ⟨g', 0, none⟩) zs.length cap'] w fun e w' => e = .returned (.bool true) ∧ Below w.heap.size w w' := by
  have H1 := Lib.hid h1
  have H2 := Lib.hid h2
  clear h1 h2
  go_enter Try.func8, Try.ntmps8
  go_wp2_with fail
  go_loopg [5] (zs.length + 1) (fun kx s5 wr => ∃ j : Nat, s5 = .int .i64 (j : Int) ∧ j ≤ zs.length ∧ kx = zs.length + 1 - j ∧ Hid (Below w.heap.size w wr))
  case atStart => exact ⟨0, rfl, Nat.zero_le _, rfl, Lib.hid (Below.refl _ _)⟩
  case round =>
    obtain ⟨j, rfl, hj, rfl, HB⟩ := hrel
    by_cases hlt : j < zs.length
    · obtain ⟨c0, c1, c2⟩ := (H1.out.below HB.out).at j hlt
      obtain ⟨d0, d1, d2⟩ := (H2.out.below HB.out).at j hlt
      generalize zs[j] = x at *
      obtain ⟨x0, x1, x2⟩ := x
      simp only at c0 c1 c2 d0 d1 d2
      have j0 : (0 : Int) ≤ (j : Int) := by omega
      have j1 : (j : Int) < (zs.length : Int) := by omega
      have E := Lib.hid (fun w => eq_same x0 x1 x2 w)
      have K : Hid (wr.cell? ⟨g, j * 3, none⟩ = some (.int .i64 x0) ∧ wr.cell? ⟨g, j * 3 + 1, none⟩ = some (.string x1) ∧ wr.cell? ⟨g, j * 3 + 2, none⟩ = some (.int .i64 x2) ∧ wr.cell? ⟨g', j * 3, none⟩ = some (.int .i64 x0) ∧ wr.cell? ⟨g', j * 3 + 1, none⟩ = some (.string x1) ∧ wr.cell? ⟨g', j * 3 + 2, none⟩ = some (.int .i64 x2) ∧ Below w.heap.size w wr) := Lib.hid ⟨c0, c1, c2, d0, d1, d2, HB.out⟩
      go_wp2_with fail
      go_region_held3 (fun W => W.cell? ⟨g, j * 3, none⟩ = some (.int .i64 x0) ∧ W.cell? ⟨g, j * 3 + 1, none⟩ = some (.string x1) ∧ W.cell? ⟨g, j * 3 + 2, none⟩ = some (.int .i64 x2) ∧ W.cell? ⟨g', j * 3, none⟩ = some (.int .i64 x0) ∧ W.cell? ⟨g', j * 3 + 1, none⟩ = some (.string x1) ∧ W.cell? ⟨g', j * 3 + 2, none⟩ = some (.int .i64 x2) ∧ Below w.heap.size w W) (first | (exact keepW6 K.out (drewG wr)) | (exact keepW6 K.out y1) | go_keep) ((first
        | (go_at_call 13; refine (E.out _).mono ?_; rintro e x1 ⟨rfl, hx1⟩; have y1 := undrewG hx1)))
      rename_i held
      have HH := Lib.hid held.2.2.2.2.2.2
      clear held K
      go_wp2_with fail
      go_roundg (zs.length + 1 - (j + 1))
      case measure => omega
      case rel => exact ⟨j + 1, by go_num, by omega, by omega, HH⟩
    · obtain rfl : j = zs.length := by omega
      go_wp2_with fail
      go_ret
      exact ⟨rfl, HB.out⟩
theorem eqO_any {B B' C C' : Nat} {v u : Value} {zs : List V} {w : World} (hb : zs.length ≤ 1048576) (h1 : Own w B C v zs) (h2 : Own w B' C' u zs) :
    Calls Try.prog 8 #[v, u] w fun e w' => e = .returned (.bool true) ∧ Below w.heap.size w w' := by
  by_cases hz : zs = []
  · subst hz
    obtain ⟨a, c, rfl⟩ := h1.len
    obtain ⟨a', c', rfl⟩ := h2.len
    exact eqS_empty a a' c c' w
  · rcases h1.forms with ⟨_, h⟩ | ⟨g, cap, rfl, _⟩
    · exact absurd h hz
    rcases h2.forms with ⟨_, h⟩ | ⟨g', cap', rfl, _⟩
    · exact absurd h hz
    exact eqS_full g g' cap cap' zs w (by omega) h1.row h2.row

/-- The marks from k on. -/
def markX (k : Nat) : V := ⟨(k : Int), mkT (k + 1), ((k + 2 : Nat) : Int)⟩
def marksS (k : Nat) (n : Nat) : List V := (List.range n).map (fun j => markX (k + 3 * j))
theorem marksS_len (k n : Nat) : (marksS k n).length = n := by simp [marksS]
theorem marksS_get (k n j : Nat) (hj : j < (marksS k n).length) : (marksS k n)[j] = markX (k + 3 * j) := by simp [marksS]
theorem marksS_succ (k n : Nat) : marksS k (n + 1) = marksS k n ++ [markX (k + 3 * n)] := by simp [marksS, List.range_succ]
def markedS (k : Nat) (zs : List V) (j : Nat) : List V := marksS k j ++ zs.drop j
theorem markedS_len (k : Nat) (zs : List V) (j : Nat) (h : j ≤ zs.length) : (markedS k zs j).length = zs.length := by
  unfold markedS
  rw [List.length_append, marksS_len, List.length_drop]
  omega
theorem markedS_set (k : Nat) (zs : List V) (j : Nat) (h : j < zs.length) : (markedS k zs j).set j (markX (k + 3 * j)) = markedS k zs (j + 1) := by
  unfold markedS
  rw [marksS_succ, List.drop_eq_getElem_cons h, List.set_append_right _ _ (by rw [marksS_len]; omega), marksS_len, Nat.sub_self, List.set_cons_zero, List.append_assoc]
  rfl
theorem markedS_done (k : Nat) (zs : List V) : markedS k zs zs.length = marksS k zs.length := by
  unfold markedS
  rw [List.drop_length, List.append_nil]
theorem markedS_zero (k : Nat) (zs : List V) : markedS k zs 0 = zs := by simp [markedS, marksS]

end Go.Proofs.Ytpjccaapnglomaa.Ln
