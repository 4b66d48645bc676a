/-
  The distances of a list of stars from a direction (package impl).
-/
import Derived.Test.YtoellkbmhpekdaaGreatDoorNear2
namespace Go.Proofs.YtoellkbmhpekdaaGreatDoor
open Go.RowKit
set_option linter.unusedVariables false

def distF (zs : List StarV) (p q : Int) (j : Nat) : Int := sepN (dirT (zs.getD j star0).a (zs.getD j star0).b) (dirT p q)

theorem info_i64 : (Tryz.prog.info? 2).map (fun i => (i.zero, i.size, i.bytes)) = some (some (.int .i64 0), 1, 8) := by kernel_rfl
theorem ints_make (n : Nat) (hn : n ≤ 1048577) (w : World) :
    (Instr.makeSlice 41 (.int .i64 (n : Int)) (.int .i64 (n : Int))).run Tryz.prog w = .ok (.slice (some ⟨w.heap.size, 0, none⟩) n n) (w.alloc (.cells (madeCells #[.int .i64 0] n) 2)) := by
  obtain ⟨i, hi, hzz⟩ := Option.map_eq_some_iff.1 info_i64
  simp only [Prod.mk.injEq] at hzz
  obtain ⟨hz, hs, hb⟩ := hzz
  have hr := run_make (P := Tryz.prog) w 41 2 i _ Tryz.underlying41 hi hz .i64 .i64 (n : Int) (n : Int) (by omega) (Int.le_refl _) (by rw [hb]; omega) (by omega)
  simp only [Int.toNat_natCast, hs, Nat.mul_one] at hr
  exact hr

def IRow (w : World) (g n : Nat) (f : Nat → Int) : Prop := w.rowIs g 2 n (fun k => .int .i64 (f k))
def upTo (f : Nat → Int) (j k : Nat) : Int := if k < j then f k else 0
theorem upTo_set {w : World} {g n : Nat} {f : Nat → Int} {j : Nat} (h : IRow w g n (upTo f j)) {v : Int} (hv : v = f j) : IRow (w.setCell ⟨g, j, none⟩ (.int .i64 v)) g n (upTo f (j + 1)) := by
  refine World.rowIs.congr (World.rowIs.set h j (.int .i64 v)) (fun k _ => ?_)
  unfold upTo
  by_cases c : k = j
  · subst c
    rw [if_pos rfl, if_pos (by omega), hv]
  · rw [if_neg c]
    by_cases d : k < j
    · rw [if_pos d, if_pos (by omega)]
    · rw [if_neg d, if_neg (by omega)]

set_option maxRecDepth 100000 in
set_option maxHeartbeats 1000000 in
theorem distances_any (g cap : Nat) (zs : List StarV) (p q : Int) (fp : fits p) (w : World) (hs : SinesOK w) (hb : zs.length ≤ 1048577) (h1 : Row w g zs) (hok : ∀ j, (h : j < zs.length) → zs[j].ok) :
    Calls Tryz.prog 48 #[.slice (some ⟨g, 0, none⟩) zs.length cap, sightD p q] w fun e w' => e = .returned (.slice (some ⟨w.heap.size, 0, none⟩) zs.length zs.length) ∧ IRow w' w.heap.size zs.length (distF zs p q) ∧ Below w.heap.size w w' := by
  have H1 := Lib.hid h1
  have OK := Lib.hid hok
  have E := Lib.hid hs
  have hmk := ints_make zs.length hb
  have MADE : Hid (IRow (w.alloc (.cells (madeCells #[.int .i64 0] zs.length) 2)) w.heap.size zs.length (upTo (distF zs p q) 0)) := Lib.hid (World.rowIs.congr (World.rowIs_made w (.int .i64 0) zs.length 2) (fun _ _ => rfl))
  have FP := Lib.hid fp
  have SD : Hid (sightD p q = .iface 71 (.agg #[.int .i64 p, .int .i64 q])) := Lib.hid rfl
  generalize sightD p q = sd at *
  clear h1 hok hs fp
  go_enter Tryz.func48, Tryz.ntmps48
  go_wp2_with fail
  clear hmk
  go_loopg [13] (zs.length + 1) (fun kx s13 wr => ∃ j : Nat, s13 = .int .i64 (j : Int) ∧ j ≤ zs.length ∧ kx = zs.length + 1 - j ∧ Hid (IRow wr w.heap.size zs.length (upTo (distF zs p q) j)) ∧ Hid (Below w.heap.size w wr))
  case atStart => exact ⟨0, rfl, Nat.zero_le _, rfl, MADE, Lib.hid ((Below.refl _ w).alloc (Nat.le_refl _) _)⟩
  case round =>
    obtain ⟨j, rfl, hj, rfl, HI, HB⟩ := hrel
    by_cases hlt : j < zs.length
    · obtain ⟨c0, c1, c2, c3, c4⟩ := (H1.out.below HB.out).at j hlt
      obtain ⟨ho1, ho2, ho3, ho4, ho5⟩ := OK.out j hlt
      have D := Lib.hid (fun w hs => distSD_any zs[j].s zs[j].a zs[j].b zs[j].c zs[j].d ho2 p q FP.out w hs)
      have hd : sepN (dirT zs[j].a zs[j].b) (dirT p q) = distF zs p q j := by
        unfold distF
        rw [getD_at zs j hlt]
      rw [hd] at D
      unfold sightS at D
      rw [show sightD p q = sd from SD.out.symm] at D
      clear ho1 ho2 ho3 ho4 ho5 hd
      obtain ⟨n, hn⟩ : ∃ n, n = distF zs p q j := ⟨_, rfl⟩
      rw [← hn] at D
      have HN := Lib.hid hn
      clear hn
      generalize zs[j] = x at *
      obtain ⟨xs, xa, xb, xc, xd⟩ := x
      simp only at c0 c1 c2 c3 c4 D
      have j0 : (0 : Int) ≤ (j : Int) := by omega
      have j1 : (j : Int) < (zs.length : Int) := by omega
      go_wp2_with fail
      refine (D.out _ (E.out.below ((HB.out).alloc HB.out.size _))).mono ?_
      rintro e w2 ⟨rfl, hb2⟩
      have HB2 := Lib.hid ((HB.out.alloc HB.out.size _).trans (hb2.mono (HB.out.alloc HB.out.size _).size))
      have R0 := (HI.out.alloc (.cells #[.string xs, .int .i64 xa, .int .i64 xb, .int .i64 xc, .int .i64 xd] 68))
      have R2 : IRow w2 w.heap.size zs.length (upTo (distF zs p q) j) := R0.of_block (hb2.block _ R0.lt)
      have cj := R2.cell hlt
      have fj := R2.frozen j
      have HR := Lib.hid R2
      clear hb2 R0 R2 c0 c1 c2 c3 c4
      go_wp2_with fail
      go_roundg (zs.length + 1 - (j + 1))
      case measure => omega
      case rel => exact ⟨j + 1, by go_num, by omega, by omega, Lib.hid (upTo_set HR.out HN.out), Lib.hid (HB2.out.setCell (Nat.le_refl _) _)⟩
    · obtain rfl : j = zs.length := by omega
      go_wp2_with fail
      go_ret
      exact ⟨rfl, World.rowIs.congr HI.out (fun k hk => by unfold upTo; rw [if_pos hk]), HB.out⟩
end Go.Proofs.YtoellkbmhpekdaaGreatDoor
