/-
  Lists of stars: the contracts of szStarS, toStarS, eqStarS (package laws).
-/
import Derived.Test.YtjghopepgfgebaaGreatDoorStar1
import Derived.Test.YtjghopepgfgebaaGreatDoorStarsO
import Derived.Test.YtjghopepgfgebaaGreatDoorStarR
import Derived.Deep.LoopGhost
import Derived.WideMake
import Derived.Deep.RegionHeld3
namespace Go.Proofs.YtjghopepgfgebaaGreatDoor
open Go.RowKit
set_option linter.unusedVariables false

theorem StarAt.drewN {w : World} {b o : Nat} {x : StarV} (h : StarAt w b o x) {n : Nat} : StarAt (w.drewN n) b o x := ⟨h.c0, h.c1, h.c2, h.c3, h.c4⟩
theorem quiet_dd {P : Program} {f : FuncId} {args : Array Value} {w : World} {n : Nat} {v : Value}
    (h : Calls P f args (w.drewN n) fun e w' => e = .returned v ∧ ∃ m, w' = (w.drewN n).drewN m) : Calls P f args (w.drewN n) fun e w'' => e = .returned v ∧ ∃ m, w'' = w.drewN m :=
  h.mono fun _ _ ⟨he, m, hm⟩ => ⟨he, n + m, by rw [hm, World.drewN_drewN]⟩
theorem szN_bd (s : ByteArray) (l : Int) (h0 : 0 ≤ l) (h1 : l ≤ 1048576) : -1 ≤ szN s l ∧ szN s l ≤ l := by unfold szN; split <;> omega

/-- What szStarS answers: below 0, or the list is short. -/
def SzPost (zs : List StarV) (l : Int) (w : World) (e : Ending) (w' : World) : Prop :=
  ∃ z : Int, e = .returned (.int .i64 z) ∧ -1 ≤ z ∧ z ≤ l ∧ (0 ≤ z → zs.length ≤ 1048576) ∧ Below w.heap.size w w'

set_option maxRecDepth 100000 in
set_option maxHeartbeats 1000000 in
theorem szS_empty (a : Option Addr) (cap : Nat) (l : Int) (h0 : 0 ≤ l) (h1 : l ≤ 1048576) (w : World) :
    Calls Tryz.prog 6 #[.slice a 0 cap, .int .i64 l] w (SzPost [] l w) := by
  go_enter Tryz.func6, Tryz.ntmps6
  go_wp2_with fail
  go_loop [1, 5] (fun s1 i => s1 = .int .i64 l ∧ i = .int .i64 0) (fun _ _ => 0)
  case atStart => exact ⟨rfl, rfl⟩
  case round =>
    obtain ⟨rfl, rfl⟩ := hrel
    go_wp2_with fail
    go_ret
    exact ⟨l, rfl, by omega, by omega, fun _ => by simp, Below.refl _ _⟩

set_option maxRecDepth 100000 in
set_option maxHeartbeats 1000000 in
theorem szS_full (b off cap : Nat) (zs : List StarV) (l : Int) (h0 : 0 ≤ l) (h1 : l ≤ 1048576) (w : World) (hl : zs.length ≤ 9223372036854775807)
    (hc : ∀ j, (h : j < zs.length) → StarAt w b (off + j * 5) zs[j] ∧ zs[j].ok) :
    Calls Tryz.prog 6 #[.slice (some ⟨b, off, none⟩) zs.length cap, .int .i64 l] w (SzPost zs l w) := by
  have HC := Lib.hid hc
  clear hc
  by_cases hneg : l - (zs.length : Int) < 0
  ·
    go_enter Tryz.func6, Tryz.ntmps6
    go_wp2_with fail
    go_ret
    exact ⟨-1, rfl, by omega, by omega, fun h => by omega, Below.refl _ _⟩
  · have hlen : zs.length ≤ 1048576 := by omega
    go_enter Tryz.func6, Tryz.ntmps6
    go_wp2_with fail
    go_loopg [1, 5] (zs.length + 1) (fun kx s1 s5 wr => ∃ (i : Nat) (z : Int), i ≤ zs.length ∧ kx = zs.length + 1 - i ∧ s1 = .int .i64 z ∧ s5 = .int .i64 (i : Int) ∧ 0 ≤ z ∧ z ≤ l ∧ Hid (Below w.heap.size w wr))
    case atStart => exact ⟨0, l - (zs.length : Int), Nat.zero_le _, rfl, rfl, rfl, by omega, by omega, Lib.hid (Below.refl _ _)⟩
    case round =>
      obtain ⟨i, z, hi, rfl, rfl, rfl, hz0, hz1, HR⟩ := hrel
      by_cases hlt : i < zs.length
      · obtain ⟨hat, hok⟩ := HC.out i hlt
        obtain ⟨c0, c1, c2, c3, c4⟩ := hat.below HR.out
        have SZ := Lib.hid (fun w => szStar_any zs[i].s zs[i].a zs[i].b zs[i].c zs[i].d z hz0 (by omega) hok.1 w)
        have hsz := szN_bd zs[i].s z hz0 (by omega)
        generalize szN zs[i].s z = y at *
        clear hok hat
        generalize zs[i] = x at *
        obtain ⟨xs, xa, xb, xc, xd⟩ := x
        simp only at c0 c1 c2 c3 c4
        have i0 : (0 : Int) ≤ (i : Int) := by omega
        have i1 : (i : Int) < (zs.length : Int) := by omega
        go_wp2_with fail
        refine (SZ.out _).mono ?_
        rintro e w1 ⟨rfl, hb⟩
        have HB1 := Lib.hid (HR.out.trans (hb.mono HR.out.size))
        clear hb
        by_cases hy : y < 0
        · go_wp2_with fail
          go_ret
          exact ⟨-1, rfl, by omega, by omega, fun h => by omega, HB1.out⟩
        · go_wp2_with fail
          go_roundg (zs.length + 1 - (i + 1))
          case measure => omega
          case rel => exact ⟨i + 1, y, by omega, by omega, rfl, by go_num, by omega, by omega, HB1⟩
      · obtain rfl : i = zs.length := by omega
        go_wp2_with fail
        go_ret
        exact ⟨z, rfl, by omega, hz1, fun _ => hlen, HR.out⟩

theorem szS_any {v : Value} {zs : List StarV} (l : Int) (h0 : 0 ≤ l) (h1 : l ≤ 1048576) {w : World} (h : StarsIn w v zs) (hl : zs.length ≤ 9223372036854775807) :
    Calls Tryz.prog 6 #[v, .int .i64 l] w (SzPost zs l w) := by
  rcases h with ⟨a, cap, rfl, rfl⟩ | ⟨b, off, cap, rfl, _, hc⟩
  · exact szS_empty a cap l h0 h1 w
  · exact szS_full b off cap zs l h0 h1 w hl hc

/-- The call returned a new copy. -/
def ToPost (zs : List StarV) (w : World) (e : Ending) (w' : World) : Prop :=
  e = .returned (.slice (some ⟨w.heap.size, 0, none⟩) zs.length zs.length) ∧ Row w' w.heap.size zs ∧ Below w.heap.size w w'

set_option maxHeartbeats 400000 in
theorem toS_empty (a : Option Addr) (cap : Nat) (w : World) :
    Calls Tryz.prog 9 #[.slice a 0 cap] w (ToPost [] w) := by
  have hmk : ∀ w, (Instr.makeSlice 32 (.int .i64 0) (.int .i64 0)).run Tryz.prog w = .ok (.slice (some ⟨w.heap.size, 0, none⟩) 0 0) (w.alloc (.cells #[] 49)) := fun _ => by kernel_rfl
  have MADE : Hid (Row (w.alloc (.cells #[] 49)) w.heap.size []) := Lib.hid (World.rowIs_alloc w #[] 49 (rowF []) (fun k hk => by simp at hk))
  go_enter Tryz.func9, Tryz.ntmps9
  go_wp2_with fail
  clear hmk
  go_loop [4] (fun i => i = .int .i64 0) (fun _ => 0)
  case atStart => rfl
  case round =>
    subst hrel
    go_wp2_with fail
    go_ret
    exact ⟨rfl, MADE.out, (Below.refl _ _).alloc (Nat.le_refl _) _⟩

set_option maxRecDepth 100000 in
set_option maxHeartbeats 1000000 in
theorem toS_full (b off cap : Nat) (zs : List StarV) (w : World) (hb : zs.length ≤ 1048576) (hc : ∀ j, (h : j < zs.length) → StarAt w b (off + j * 5) zs[j] ∧ zs[j].ok) :
    Calls Tryz.prog 9 #[.slice (some ⟨b, off, none⟩) zs.length cap] w (ToPost zs w) := by
  have HC := Lib.hid hc
  clear hc
  have hmk := star_make zs.length (by omega)
  have MADE := Lib.hid (Row.made w zs.length)
  go_enter Tryz.func9, Tryz.ntmps9
  go_wp2_with fail
  clear hmk
  go_loopg [4] (zs.length + 1) (fun kx s4 wr => ∃ j : Nat, s4 = .int .i64 (j : Int) ∧ j ≤ zs.length ∧ kx = zs.length + 1 - j ∧ Hid (Row wr w.heap.size (copyS zs j)) ∧ Hid (Below w.heap.size w wr))
  case atStart => exact ⟨0, rfl, Nat.zero_le _, rfl, MADE, Lib.hid ((Below.refl _ _).alloc (Nat.le_refl _) _)⟩
  case round =>
    obtain ⟨j, rfl, hj, rfl, HR, HB⟩ := hrel
    by_cases hlt : j < zs.length
    · obtain ⟨c0, c1, c2, c3, c4⟩ := (HC.out j hlt).1.below HB.out
      have T := Lib.hid (fun w => toStar_any zs[j].s zs[j].a zs[j].b zs[j].c zs[j].d w)
      have CS := Lib.hid (copyS_set zs j hlt)
      have CL := Lib.hid (copyS_len zs j hj)
      generalize zs[j] = x at *
      have PU := Lib.hid (fun (W : World) (h : Row W w.heap.size (copyS zs j)) => Row.put h j (by rw [CL.out]; exact hlt) x)
      rw [CS.out] at PU
      obtain ⟨xs, xa, xb, xc, xd⟩ := x
      simp only at c0 c1 c2 c3 c4
      have j0 : (0 : Int) ≤ (j : Int) := by omega
      have j1 : (j : Int) < (zs.length : Int) := by omega
      go_wp2_with fail
      refine (T.out _).mono ?_
      rintro e w1 ⟨rfl, hb1⟩
      have HB1 := Lib.hid (HB.out.trans (hb1.mono HB.out.size))
      have hR1 := HR.out.below hb1
      have HR1 := Lib.hid hR1
      obtain ⟨d0, d1, d2, d3, d4⟩ := hR1.at j (by rw [CL.out]; exact hlt)
      have f0 := hR1.free (j * 5)
      have f1 := hR1.free (j * 5 + 1)
      have f2 := hR1.free (j * 5 + 2)
      have f3 := hR1.free (j * 5 + 3)
      have f4 := hR1.free (j * 5 + 4)
      generalize (copyS zs j)[j]'(by rw [CL.out]; exact hlt) = y at d0 d1 d2 d3 d4
      clear hb1 hR1 c0 c1 c2 c3 c4
      go_wp2_with fail
      go_roundg (zs.length + 1 - (j + 1))
      case measure => omega
      case rel => exact ⟨j + 1, by go_num, by omega, by omega, Lib.hid (PU.out w1 HR1.out), Lib.hid (putAt_below (x := ⟨xs, xa, xb, xc, xd⟩) HB1.out (Nat.le_refl _))⟩
    · obtain rfl : j = zs.length := by omega
      have HR2 := HR
      rw [copyS_all] at HR2
      go_wp2_with fail
      go_ret
      exact ⟨rfl, HR2.out, HB.out⟩
theorem toS_any {v : Value} {zs : List StarV} {w : World} (h : StarsIn w v zs) (hb : zs.length ≤ 1048576) :
    Calls Tryz.prog 9 #[v] w (ToPost zs w) := by
  rcases h with ⟨a, cap, rfl, rfl⟩ | ⟨b, off, cap, rfl, _, hc⟩
  · exact toS_empty a cap w
  · exact toS_full b off cap zs w hb hc

set_option maxHeartbeats 400000 in
theorem eqS_empty (a a' : Option Addr) (cap cap' : Nat) (w : World) :
    Calls Tryz.prog 12 #[.slice a 0 cap, .slice a' 0 cap'] w fun e w' => e = .returned (.bool true) ∧ Below w.heap.size w w' := by
  go_enter Tryz.func12, Tryz.ntmps12
  go_wp2_with fail
  go_loop [5] (fun i => i = .int .i64 0) (fun _ => 0)
  case atStart => rfl
  case round =>
    subst hrel
    go_wp2_with fail
    go_ret
    exact ⟨rfl, Below.refl _ _⟩

theorem undrewS {W u : World} (h : Below W.drew.heap.size W.drew u) : Below W.heap.size W u := ⟨h.os, h.tape, h.output, h.size, h.block⟩
theorem drewS (W : World) : Below W.heap.size W W.drew := ⟨rfl, rfl, rfl, Nat.le_refl _, fun _ _ => rfl⟩

theorem keepE {w W W' : World} {g g' o : Nat} {xs : ByteArray} {xa xb xc xd : Int} (h : W.cell? ⟨g, o, none⟩ = some (.string xs) ∧ W.cell? ⟨g, o + 1, none⟩ = some (.int .i64 xa) ∧ W.cell? ⟨g, o + 2, none⟩ = some (.int .i64 xb) ∧ W.cell? ⟨g, o + 3, none⟩ = some (.int .i64 xc) ∧ W.cell? ⟨g, o + 4, none⟩ = some (.int .i64 xd) ∧ W.cell? ⟨g', o, none⟩ = some (.string xs) ∧ W.cell? ⟨g', o + 1, none⟩ = some (.int .i64 xa) ∧ W.cell? ⟨g', o + 2, none⟩ = some (.int .i64 xb) ∧ W.cell? ⟨g', o + 3, none⟩ = some (.int .i64 xc) ∧ W.cell? ⟨g', o + 4, none⟩ = some (.int .i64 xd) ∧ Below w.heap.size w W) (hb : Below W.heap.size W W') :
    W'.cell? ⟨g, o, none⟩ = some (.string xs) ∧ W'.cell? ⟨g, o + 1, none⟩ = some (.int .i64 xa) ∧ W'.cell? ⟨g, o + 2, none⟩ = some (.int .i64 xb) ∧ W'.cell? ⟨g, o + 3, none⟩ = some (.int .i64 xc) ∧ W'.cell? ⟨g, o + 4, none⟩ = some (.int .i64 xd) ∧ W'.cell? ⟨g', o, none⟩ = some (.string xs) ∧ W'.cell? ⟨g', o + 1, none⟩ = some (.int .i64 xa) ∧ W'.cell? ⟨g', o + 2, none⟩ = some (.int .i64 xb) ∧ W'.cell? ⟨g', o + 3, none⟩ = some (.int .i64 xc) ∧ W'.cell? ⟨g', o + 4, none⟩ = some (.int .i64 xd) ∧ Below w.heap.size w W' := by
  obtain ⟨h0, h1, h2, h3, h4, k0, k1, k2, k3, k4, hB⟩ := h
  have l0 := World.block_lt_of_cell? W ⟨g, o, none⟩ h0
  have l1 := World.block_lt_of_cell? W ⟨g', o, none⟩ k0
  obtain ⟨b, _⟩ := bcell hb
  exact ⟨(b _ _ l0).trans h0, (b _ _ l0).trans h1, (b _ _ l0).trans h2, (b _ _ l0).trans h3, (b _ _ l0).trans h4, (b _ _ l1).trans k0, (b _ _ l1).trans k1, (b _ _ l1).trans k2, (b _ _ l1).trans k3, (b _ _ l1).trans k4, hB.trans (hb.mono hB.size)⟩

set_option maxRecDepth 100000 in
set_option maxHeartbeats 1000000 in
theorem eqS_full (g g' cap cap' : Nat) (zs : List StarV) (w : World) (hb : zs.length ≤ 1048577) (h1 : Row w g zs) (h2 : Row w g' zs) :
    Calls Tryz.prog 12 #[.slice (some ⟨g, 0, none⟩) zs.length cap, .slice (some ⟨g', 0, none⟩) zs.length cap'] w fun e w' => e = .returned (.bool true) ∧ Below w.heap.size w w' := by
  have H1 := Lib.hid h1
  have H2 := Lib.hid h2
  clear h1 h2
  go_enter Tryz.func12, Tryz.ntmps12
  go_wp2_with fail
  go_loopg [5] (zs.length + 1) (fun kx s5 wr => ∃ j : Nat, s5 = .int .i64 (j : Int) ∧ j ≤ zs.length ∧ kx = zs.length + 1 - j ∧ Hid (Below w.heap.size w wr))
  case atStart => exact ⟨0, rfl, Nat.zero_le _, rfl, Lib.hid (Below.refl _ _)⟩
  case round =>
    obtain ⟨j, rfl, hj, rfl, HB⟩ := hrel
    by_cases hlt : j < zs.length
    · obtain ⟨c0, c1, c2, c3, c4⟩ := (H1.out.below HB.out).at j hlt
      obtain ⟨d0, d1, d2, d3, d4⟩ := (H2.out.below HB.out).at j hlt
      generalize zs[j] = x at *
      obtain ⟨xs, xa, xb, xc, xd⟩ := x
      simp only at c0 c1 c2 c3 c4 d0 d1 d2 d3 d4
      have j0 : (0 : Int) ≤ (j : Int) := by omega
      have j1 : (j : Int) < (zs.length : Int) := by omega
      have E := Lib.hid (fun w => eqStar_same xs xa xb xc xd w)
      have K : Hid (wr.cell? ⟨g, j * 5, none⟩ = some (.string xs) ∧ wr.cell? ⟨g, j * 5 + 1, none⟩ = some (.int .i64 xa) ∧ wr.cell? ⟨g, j * 5 + 2, none⟩ = some (.int .i64 xb) ∧ wr.cell? ⟨g, j * 5 + 3, none⟩ = some (.int .i64 xc) ∧ wr.cell? ⟨g, j * 5 + 4, none⟩ = some (.int .i64 xd) ∧ wr.cell? ⟨g', j * 5, none⟩ = some (.string xs) ∧ wr.cell? ⟨g', j * 5 + 1, none⟩ = some (.int .i64 xa) ∧ wr.cell? ⟨g', j * 5 + 2, none⟩ = some (.int .i64 xb) ∧ wr.cell? ⟨g', j * 5 + 3, none⟩ = some (.int .i64 xc) ∧ wr.cell? ⟨g', j * 5 + 4, none⟩ = some (.int .i64 xd) ∧ Below w.heap.size w wr) := Lib.hid ⟨c0, c1, c2, c3, c4, d0, d1, d2, d3, d4, HB.out⟩
      go_wp2_with fail
      go_region_held3 (fun W => W.cell? ⟨g, j * 5, none⟩ = some (.string xs) ∧ W.cell? ⟨g, j * 5 + 1, none⟩ = some (.int .i64 xa) ∧ W.cell? ⟨g, j * 5 + 2, none⟩ = some (.int .i64 xb) ∧ W.cell? ⟨g, j * 5 + 3, none⟩ = some (.int .i64 xc) ∧ W.cell? ⟨g, j * 5 + 4, none⟩ = some (.int .i64 xd) ∧ W.cell? ⟨g', j * 5, none⟩ = some (.string xs) ∧ W.cell? ⟨g', j * 5 + 1, none⟩ = some (.int .i64 xa) ∧ W.cell? ⟨g', j * 5 + 2, none⟩ = some (.int .i64 xb) ∧ W.cell? ⟨g', j * 5 + 3, none⟩ = some (.int .i64 xc) ∧ W.cell? ⟨g', j * 5 + 4, none⟩ = some (.int .i64 xd) ∧ Below w.heap.size w W) (first | (exact keepE K.out (drewS wr)) | (exact keepE K.out y1) | go_keep) ((first
        | (go_at_call 36; refine (E.out _).mono ?_; rintro e x1 ⟨rfl, hx1⟩; have y1 := undrewS hx1)))
      rename_i held
      have HH := Lib.hid held.2.2.2.2.2.2.2.2.2.2
      clear held K
      go_wp2_with fail
      go_roundg (zs.length + 1 - (j + 1))
      case measure => omega
      case rel => exact ⟨j + 1, by go_num, by omega, by omega, HH⟩
    · obtain rfl : j = zs.length := by omega
      go_wp2_with fail
      go_ret
      exact ⟨rfl, HB.out⟩
end Go.Proofs.YtjghopepgfgebaaGreatDoor
