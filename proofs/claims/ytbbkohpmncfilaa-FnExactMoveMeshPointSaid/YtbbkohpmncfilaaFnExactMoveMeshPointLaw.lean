/-
  The law FnExactMoveMeshPoint: for every input the call returns true, and each argument reads afterwards as it read before. No condition.
-/
import Derived.Test.YtbbkohpmncfilaaRows
import Derived.Test.YtbbkohpmncfilaaPost0
import Derived.Test.YtbbkohpmncfilaaMov
import Derived.Test.YtbbkohpmncfilaaCu2
import Derived.WalkKit
import Derived.ProofKit
import Derived.OpenShut
import Derived.ChangeMaps5
import Derived.ChangeSlices
import Derived.Carry
import Derived.Lib.SmallJoins
namespace Go.Proofs.Ytbbkohpmncfilaa.fnExactMoveMeshPoint
open Go.ChangeShapes Go.WideShapes Go.ChangeAt Go.RowKit Go.ChangeMaps
set_option linter.unusedVariables false

theorem own : ownKnob Try.prog.godebug = none := by kernel_rfl

def Env (_w : World) : Prop := True

set_option maxRecDepth 100000 in
set_option maxHeartbeats 8000000 in
theorem walk (w : World) (c0 r0 : Int) (u0 : Value) (a0 : List Sp.V) (w0 : fits c0 ∧ fits r0) (x0 : Sp.In w u0 a0) (n0 : a0.length ≤ 9223372036854775807) (a1 : Int) (w1 : (Lit.int .i64 a1).wf = true) (a2 : Int) (w2 : (Lit.int .i64 a2).wf = true) (a3 b3 : Int) (w3 : (Lit.int .i64 a3).wf = true) (x3 : (Lit.int .i64 b3).wf = true) (henv : Env w) :
    Calls Try.prog 11 #[.agg #[.int .i64 c0, .int .i64 r0, u0], .int .i64 a1, .int .i64 a2, .agg #[.int .i64 a3, .int .i64 b3]] w fun e w' => e = .returned (.bool true) ∧ Below w.heap.size w w' := by
  have Z0 := Lib.hid (fun l h0 h1 w h => Me.sz_any c0 r0 (u := u0) (zs := a0) l h0 h1 (w := w) h n0)
  have X0 := Lib.hid x0
  have WF0 := Lib.hid w0
  have OK0 := Lib.hid x0.oks
  clear x0 w0
  go_enter Try.func11, Try.ntmps11
  go_wp2_with fail
  have HB0 : Hid (Below w.heap.size w w) := Lib.hid (Below.refl _ _)
  obtain ⟨wb1, hwwb1⟩ : ∃ W, W = w.alloc (Obj.cells #[Value.int .i64 c0, .int .i64 r0, u0] 24) := ⟨_, rfl⟩
  rw [← hwwb1]
  have hb : Below w.heap.size w wb1 := by rw [hwwb1]; exact (Below.refl _ _).alloc (Nat.le_refl _) _
  have hzwb1 : wb1.heap.size = w.heap.size + 1 := by rw [hwwb1]; simp
  have QNp0 := Lib.hid (Me.MAt.new w (c0) (r0) (u0) 24)
  rw [← hwwb1] at QNp0
  clear hwwb1
  have hswb1 := hb.size
  have HB1 := Lib.hid (HB0.out.trans (hb.mono HB0.out.size))
  clear hb
  have Qp0_1 := QNp0
  clear QNp0
  have hlp0 := Qp0_1.out.lt
  obtain ⟨qp0_0, qp0_1, qp0_2⟩ := Qp0_1.out
  obtain ⟨wb2, hwwb2⟩ : ∃ W, W = wb1.alloc (Obj.cells #[Value.int .i64 a3, .int .i64 b3] 52) := ⟨_, rfl⟩
  rw [← hwwb2]
  have hb : Below wb1.heap.size wb1 wb2 := by rw [hwwb2]; exact (Below.refl _ _).alloc (Nat.le_refl _) _
  have hzwb2 : wb2.heap.size = wb1.heap.size + 1 := by rw [hwwb2]; simp
  have QNp3 := Lib.hid (Me.PAt.new wb1 (a3) (b3) 52)
  rw [← hwwb2] at QNp3
  clear hwwb2
  rw [hzwb1] at QNp3
  clear qp0_0 qp0_1 qp0_2 hlp0
  have hswb2 := hb.size
  have HB2 := Lib.hid (HB1.out.trans (hb.mono HB1.out.size))
  have Qp0_2 := Lib.hid (Qp0_1.out.below hb)
  clear hb Qp0_1
  obtain ⟨qp0_0, qp0_1, qp0_2⟩ := Qp0_2.out
  have hlp0 := Qp0_2.out.lt
  have Qp3_2 := QNp3
  clear QNp3
  have hlp3 := Qp3_2.out.lt
  obtain ⟨qp3_0, qp3_1⟩ := Qp3_2.out
  refine (Z0.out 1048576 (by omega) (by omega) _ (X0.out.below HB2.out)).mono ?_
  rintro e w3 ⟨z0, rfl, hz00, hz10, hz2, hb⟩
  clear qp0_0 qp0_1 qp0_2 qp3_0 qp3_1 hlp0 hlp3
  have hsw3 := hb.size
  have HB3 := Lib.hid (HB2.out.trans (hb.mono HB2.out.size))
  have Qp0_3 := Lib.hid (Qp0_2.out.below hb)
  have Qp3_3 := Lib.hid (Qp3_2.out.below hb)
  clear hb Qp0_2 Qp3_2
  obtain ⟨qp0_0, qp0_1, qp0_2⟩ := Qp0_3.out
  have hlp0 := Qp0_3.out.lt
  obtain ⟨qp3_0, qp3_1⟩ := Qp3_3.out
  have hlp3 := Qp3_3.out.lt
  by_cases hz0 : z0 < 0
  · clear hz2
    go_wp2_with fail
    go_ret
    exact ⟨rfl, HB3.out⟩
  have hl0 := hz2 (by omega)
  clear hz2
  go_wp2_with fail
  have T0 := Lib.hid (fun w h => Me.to_any c0 r0 (u := u0) (zs := a0) (w := w) h hl0)
  have T3 := Lib.hid (fun w => Sp.to_any a3 b3 w)
  have F1 := Lib.hid (fun W g0 h0 => Me.specMove_any c0 r0 g0 a0.length a0 a1 a2 a3 b3 W (by omega) h0)
  have F2 := Lib.hid (fun W g0 h0 => Me.implMove_any c0 r0 g0 a0.length a0 a1 a2 a3 b3 W (by omega) h0)
  have hrl : (Me.moveR c0 r0 a0 a1 a2 a3 b3).1.2.2.length ≤ 1048576 := Me.moveR_len c0 r0 a0 a1 a2 a3 b3
  unfold Me.MPost at F1 F2
  generalize Me.moveR c0 r0 a0 a1 a2 a3 b3 = R at *
  obtain ⟨⟨c', r', L⟩, k⟩ := R
  simp only at F1 F2 hrl
  have KB : Hid (w3.cell? ⟨w.heap.size, 0, none⟩ = some (.int .i64 (c0)) ∧ w3.cell? ⟨w.heap.size, 1, none⟩ = some (.int .i64 (r0)) ∧ w3.cell? ⟨w.heap.size, 2, none⟩ = some (u0) ∧ w3.cell? ⟨w.heap.size + 1, 0, none⟩ = some (.int .i64 (a3)) ∧ w3.cell? ⟨w.heap.size + 1, 1, none⟩ = some (.int .i64 (b3)) ∧ Below w3.heap.size w3 w3) := Lib.hid ⟨qp0_0, qp0_1, qp0_2, qp3_0, qp3_1, Below.refl _ _⟩
  go_cut [10, 11] from 12 (fun s0 s1 wx => ∃ (B lo hi : Nat) (A : Option Addr) (C : Nat), s0 = .pointer (some ⟨B, 0, none⟩) ∧ s1 = .int .i64 k ∧ Hid (Me.MRes w3 (c') (r') L B (.slice A L.length C) lo hi wx))
  case first =>
    go_region_held3 (fun W => W.cell? ⟨w.heap.size, 0, none⟩ = some (.int .i64 (c0)) ∧ W.cell? ⟨w.heap.size, 1, none⟩ = some (.int .i64 (r0)) ∧ W.cell? ⟨w.heap.size, 2, none⟩ = some (u0) ∧ W.cell? ⟨w.heap.size + 1, 0, none⟩ = some (.int .i64 (a3)) ∧ W.cell? ⟨w.heap.size + 1, 1, none⟩ = some (.int .i64 (b3)) ∧ Below w3.heap.size w3 W) (first | (exact keepW5 KB.out (drewG w3)) | (exact keepW5 KB.out (Me.alDm w3 _)) | (exact keepW5 KB.out y1) | (exact keepW5 KB.out (y1.alloc y1.size _)) | (exact keepW5 KB.out y2) | (exact keepW5 KB.out (y2.alloc y2.size _)) | (exact keepW5 KB.out y3) | (exact keepW5 KB.out (y3.alloc y3.size _)) | (exact keepW5 KB.out (Me.set3B y3 (Nat.le_refl _) _ _ _)) | (exact keepW5 KB.out (Me.set3B y3 y1.size _ _ _)) | (exact keepW5 KB.out (Me.set3B y3 y2.size _ _ _)) | go_keep) ((first | (go_at_call 17; (with_reducible refine (T0.out _ (X0.out.below (HB3.out.trans ((drewG w3).mono HB3.out.size)))).mono ?_); rintro e x1 ⟨gt, rfl, hot, hx1⟩; have y1 := undrewG hx1; have R1 := hot.row) | (go_at_call 17; (with_reducible refine (T0.out _ (X0.out.below (HB3.out.trans ((Me.alDm w3 Me.rz).mono HB3.out.size)))).mono ?_); rintro e x1 ⟨gt, rfl, hot, hx1⟩; have y1 := Me.onD hx1; have R1 := hot.row; have zA1 := Me.zOn (Me.zD w3) hx1) | (go_at_call 41; (with_reducible refine (T3.out _).mono ?_); rintro e x2 ⟨rfl, hx2⟩; (first | (have y2 := Me.onN y1 hx2; have R2 := Sp.Row.below R1 hx2; (first | have zA2 := Me.zOn zA1 hx2 | skip)) | (have y2 := Me.onA y1 hx2; have R2 := (Me.rowAl R1 Me.rz).below hx2; have zA2 := Me.zOn (Me.zN x1) hx2))) | (go_at_call 40; (with_reducible refine (F1.out _ _ R2).mono ?_); rintro e x3 ⟨uw0, rfl, hof, hx3⟩; obtain ⟨Aw, Cw, rfl⟩ := hof.len; have y3 := Me.onN y2 hx3; (first | (have zF := Me.zOn zA2 hx3; obtain ⟨⟨s0, s1, s2⟩, t0, t1, t2⟩ := Me.rz_cells zF) | skip)) | (go_at_call 40; (with_reducible refine (F1.out _ _ (Me.rowAl R2 Me.rz)).mono ?_); rintro e x3 ⟨uw0, rfl, hof, hx3⟩; obtain ⟨Aw, Cw, rfl⟩ := hof.len; have y3 := Me.onA y2 hx3; have zF := Me.zOn (Me.zN x2) hx3; obtain ⟨⟨s0, s1, s2⟩, t0, t1, t2⟩ := Me.rz_cells zF)))
    all_goals
      rename_i held
      clear held
      have HOF := Lib.hid hof
      have HY := Lib.hid y3
      have HYP := Lib.hid y2
      try (have HZF := Lib.hid zF)
      have hl1x := hx1.size
      try simp at hl1x
      have hl1y := y1.size
      have hl2x := hx2.size
      try simp at hl2x
      have hl2y := y2.size
      have hl3x := hx3.size
      try simp at hl3x
      have hl3y := y3.size
      go_wp2_with fail
      go_meet
      case rel => first
        | exact ⟨_, _, _, _, _, rfl, rfl, Lib.hid (Me.MRes.after HOF.out HY.out (by first | omega | (simp; omega) | (simp; done)))⟩
        | exact ⟨_, _, _, _, _, rfl, rfl, Lib.hid (Me.MRes.before HOF.out HY.out (by first | omega | (simp; omega) | (simp; done)) HZF.out (by first | omega | (simp; omega) | (simp; done)) (by first | omega | (simp; omega) | (simp; done)))⟩
  case rest =>
    obtain ⟨Bw, low, hiw, Aw, Cw, rfl, rfl, HMw⟩ := hcut
    obtain ⟨w4, rfl⟩ : ∃ W, W = wc := ⟨_, rfl⟩
    have hb := HMw.out.below
    have lww := HMw.out.low
    have lrw := HMw.out.lowR
    have lhw := HMw.out.high
    have law := HMw.out.apart
    clear KB
    clear qp0_0 qp0_1 qp0_2 qp3_0 qp3_1 hlp0 hlp3
    have hsw4 := hb.size
    have HB4 := Lib.hid (HB3.out.trans (hb.mono HB3.out.size))
    have Qp0_4 := Lib.hid (Qp0_3.out.below hb)
    have Qp3_4 := Lib.hid (Qp3_3.out.below hb)
    clear hb Qp0_3 Qp3_3
    obtain ⟨qp0_0, qp0_1, qp0_2⟩ := Qp0_4.out
    have hlp0 := Qp0_4.out.lt
    obtain ⟨qp3_0, qp3_1⟩ := Qp3_4.out
    have hlp3 := Qp3_4.out.lt
    have Ow0_4 := Lib.hid HMw.out.own
    have Qw0_4 := Lib.hid HMw.out.at_
    clear HMw
    have hlw0 := Qw0_4.out.lt
    have hkw := hlw0
    obtain ⟨qw0_0, qw0_1, qw0_2⟩ := Qw0_4.out
    go_wp2_with fail
    refine (T0.out _ (X0.out.below HB4.out)).mono ?_
    rintro e w5 ⟨gx0, rfl, ho, hb⟩
    have HO := Lib.hid ho
    clear ho
    clear qp0_0 qp0_1 qp0_2 qp3_0 qp3_1 qw0_0 qw0_1 qw0_2 hlp0 hlp3 hlw0
    have hsw5 := hb.size
    have HB5 := Lib.hid (HB4.out.trans (hb.mono HB4.out.size))
    have Qp0_5 := Lib.hid (Qp0_4.out.below hb)
    have Qp3_5 := Lib.hid (Qp3_4.out.below hb)
    have Qw0_5 := Lib.hid (Qw0_4.out.below hb)
    have Ow0_5 := Lib.hid (Ow0_4.out.below hb)
    clear hb Qp0_4 Qp3_4 Qw0_4 Ow0_4
    obtain ⟨qp0_0, qp0_1, qp0_2⟩ := Qp0_5.out
    have hlp0 := Qp0_5.out.lt
    obtain ⟨qp3_0, qp3_1⟩ := Qp3_5.out
    have hlp3 := Qp3_5.out.lt
    obtain ⟨qw0_0, qw0_1, qw0_2⟩ := Qw0_5.out
    have hlw0 := Qw0_5.out.lt
    have Ox0_5 := HO
    clear HO
    go_wp2_with fail
    obtain ⟨wb6, hwwb6⟩ : ∃ W, W = w5.alloc (Obj.cells #[Value.int .i64 c0, .int .i64 r0, .slice (some ⟨gx0, 0, none⟩) a0.length a0.length] 29) := ⟨_, rfl⟩
    rw [← hwwb6]
    have hb : Below w5.heap.size w5 wb6 := by rw [hwwb6]; exact (Below.refl _ _).alloc (Nat.le_refl _) _
    have hzwb6 : wb6.heap.size = w5.heap.size + 1 := by rw [hwwb6]; simp
    have QNx0 := Lib.hid (Me.MAt.new w5 (c0) (r0) (.slice (some ⟨gx0, 0, none⟩) a0.length a0.length) 29)
    rw [← hwwb6] at QNx0
    clear hwwb6
    clear qp0_0 qp0_1 qp0_2 qp3_0 qp3_1 qw0_0 qw0_1 qw0_2 hlp0 hlp3 hlw0
    have hswb6 := hb.size
    have HB6 := Lib.hid (HB5.out.trans (hb.mono HB5.out.size))
    have Qp0_6 := Lib.hid (Qp0_5.out.below hb)
    have Qp3_6 := Lib.hid (Qp3_5.out.below hb)
    have Qw0_6 := Lib.hid (Qw0_5.out.below hb)
    have Ow0_6 := Lib.hid (Ow0_5.out.below hb)
    have Ox0_6 := Lib.hid (Ox0_5.out.below hb)
    clear hb Qp0_5 Qp3_5 Qw0_5 Ow0_5 Ox0_5
    obtain ⟨qp0_0, qp0_1, qp0_2⟩ := Qp0_6.out
    have hlp0 := Qp0_6.out.lt
    obtain ⟨qp3_0, qp3_1⟩ := Qp3_6.out
    have hlp3 := Qp3_6.out.lt
    obtain ⟨qw0_0, qw0_1, qw0_2⟩ := Qw0_6.out
    have hlw0 := Qw0_6.out.lt
    have Qx0_6 := QNx0
    clear QNx0
    have hlx0 := Qx0_6.out.lt
    obtain ⟨qx0_0, qx0_1, qx0_2⟩ := Qx0_6.out
    have hzzwb6 : w5.heap.size < wb6.heap.size := by omega
    clear hzwb6
    have KB : Hid (wb6.cell? ⟨w.heap.size, 0, none⟩ = some (.int .i64 (c0)) ∧ wb6.cell? ⟨w.heap.size, 1, none⟩ = some (.int .i64 (r0)) ∧ wb6.cell? ⟨w.heap.size, 2, none⟩ = some (u0) ∧ wb6.cell? ⟨w.heap.size + 1, 0, none⟩ = some (.int .i64 (a3)) ∧ wb6.cell? ⟨w.heap.size + 1, 1, none⟩ = some (.int .i64 (b3)) ∧ wb6.cell? ⟨Bw, 0, none⟩ = some (.int .i64 (c')) ∧ wb6.cell? ⟨Bw, 1, none⟩ = some (.int .i64 (r')) ∧ wb6.cell? ⟨Bw, 2, none⟩ = some (.slice Aw L.length Cw) ∧ wb6.cell? ⟨w5.heap.size, 0, none⟩ = some (.int .i64 (c0)) ∧ wb6.cell? ⟨w5.heap.size, 1, none⟩ = some (.int .i64 (r0)) ∧ wb6.cell? ⟨w5.heap.size, 2, none⟩ = some (.slice (some ⟨gx0, 0, none⟩) a0.length a0.length) ∧ Below wb6.heap.size wb6 wb6) := Lib.hid ⟨qp0_0, qp0_1, qp0_2, qp3_0, qp3_1, qw0_0, qw0_1, qw0_2, qx0_0, qx0_1, qx0_2, Below.refl _ _⟩
    go_cut [13, 14] from 15 (fun s0 s1 wx => ∃ (B lo hi : Nat) (A : Option Addr) (C : Nat), s0 = .pointer (some ⟨B, 0, none⟩) ∧ s1 = .int .i64 k ∧ Hid (Me.MRes wb6 (c') (r') L B (.slice A L.length C) lo hi wx))
    case first =>
      go_region_held3 (fun W => W.cell? ⟨w.heap.size, 0, none⟩ = some (.int .i64 (c0)) ∧ W.cell? ⟨w.heap.size, 1, none⟩ = some (.int .i64 (r0)) ∧ W.cell? ⟨w.heap.size, 2, none⟩ = some (u0) ∧ W.cell? ⟨w.heap.size + 1, 0, none⟩ = some (.int .i64 (a3)) ∧ W.cell? ⟨w.heap.size + 1, 1, none⟩ = some (.int .i64 (b3)) ∧ W.cell? ⟨Bw, 0, none⟩ = some (.int .i64 (c')) ∧ W.cell? ⟨Bw, 1, none⟩ = some (.int .i64 (r')) ∧ W.cell? ⟨Bw, 2, none⟩ = some (.slice Aw L.length Cw) ∧ W.cell? ⟨w5.heap.size, 0, none⟩ = some (.int .i64 (c0)) ∧ W.cell? ⟨w5.heap.size, 1, none⟩ = some (.int .i64 (r0)) ∧ W.cell? ⟨w5.heap.size, 2, none⟩ = some (.slice (some ⟨gx0, 0, none⟩) a0.length a0.length) ∧ Below wb6.heap.size wb6 W) (first | (exact keepW11 KB.out (drewG wb6)) | (exact keepW11 KB.out (Me.alDm wb6 _)) | (exact keepW11 KB.out y1) | (exact keepW11 KB.out (y1.alloc y1.size _)) | (exact keepW11 KB.out y2) | (exact keepW11 KB.out (y2.alloc y2.size _)) | (exact keepW11 KB.out (Me.set3B y2 (Nat.le_refl _) _ _ _)) | (exact keepW11 KB.out (Me.set3B y2 y1.size _ _ _)) | go_keep) ((first | (go_at_call 41; (with_reducible refine (T3.out _).mono ?_); rintro e x1 ⟨rfl, hx1⟩; (first | (have y1 := Me.onD hx1; have R1 := Sp.Row.below Ox0_6.out.row y1; have zA1 := Me.zOn (Me.zD wb6) hx1) | (have y1 := undrewG hx1; have R1 := Sp.Row.below Ox0_6.out.row y1))) | (go_at_call 42; (with_reducible refine (F2.out _ _ R1).mono ?_); rintro e x2 ⟨ug0, rfl, hof, hx2⟩; obtain ⟨Ag, Cg, rfl⟩ := hof.len; have y2 := Me.onN y1 hx2; (first | (have zF := Me.zOn zA1 hx2; obtain ⟨⟨s0, s1, s2⟩, t0, t1, t2⟩ := Me.rz_cells zF) | skip)) | (go_at_call 42; (with_reducible refine (F2.out _ _ (Me.rowAl R1 Me.rz)).mono ?_); rintro e x2 ⟨ug0, rfl, hof, hx2⟩; obtain ⟨Ag, Cg, rfl⟩ := hof.len; have y2 := Me.onA y1 hx2; have zF := Me.zOn (Me.zN x1) hx2; obtain ⟨⟨s0, s1, s2⟩, t0, t1, t2⟩ := Me.rz_cells zF)))
      all_goals
        rename_i held
        clear held
        have HOF := Lib.hid hof
        have HY := Lib.hid y2
        have HYP := Lib.hid y1
        try (have HZF := Lib.hid zF)
        have hl1x := hx1.size
        try simp at hl1x
        have hl1y := y1.size
        have hl2x := hx2.size
        try simp at hl2x
        have hl2y := y2.size
        go_wp2_with fail
        go_meet
        case rel => first
          | exact ⟨_, _, _, _, _, rfl, rfl, Lib.hid (Me.MRes.after HOF.out HY.out (by first | omega | (simp; omega) | (simp; done)))⟩
          | exact ⟨_, _, _, _, _, rfl, rfl, Lib.hid (Me.MRes.before HOF.out HY.out (by first | omega | (simp; omega) | (simp; done)) HZF.out (by first | omega | (simp; omega) | (simp; done)) (by first | omega | (simp; omega) | (simp; done)))⟩
    case rest =>
      obtain ⟨Bg, log, hig, Ag, Cg, rfl, rfl, HMg⟩ := hcut
      obtain ⟨w7, rfl⟩ : ∃ W, W = wc := ⟨_, rfl⟩
      have hb := HMg.out.below
      have lwg := HMg.out.low
      have lrg := HMg.out.lowR
      have lhg := HMg.out.high
      have lag := HMg.out.apart
      clear KB
      clear qp0_0 qp0_1 qp0_2 qp3_0 qp3_1 qw0_0 qw0_1 qw0_2 qx0_0 qx0_1 qx0_2 hlp0 hlp3 hlw0 hlx0
      have hsw7 := hb.size
      have HB7 := Lib.hid (HB6.out.trans (hb.mono HB6.out.size))
      have Qp0_7 := Lib.hid (Qp0_6.out.below hb)
      have Qp3_7 := Lib.hid (Qp3_6.out.below hb)
      have Qw0_7 := Lib.hid (Qw0_6.out.below hb)
      have Qx0_7 := Lib.hid (Qx0_6.out.below hb)
      have Ow0_7 := Lib.hid (Ow0_6.out.below hb)
      have Ox0_7 := Lib.hid (Ox0_6.out.below hb)
      clear hb Qp0_6 Qp3_6 Qw0_6 Qx0_6 Ow0_6 Ox0_6
      obtain ⟨qp0_0, qp0_1, qp0_2⟩ := Qp0_7.out
      have hlp0 := Qp0_7.out.lt
      obtain ⟨qp3_0, qp3_1⟩ := Qp3_7.out
      have hlp3 := Qp3_7.out.lt
      obtain ⟨qw0_0, qw0_1, qw0_2⟩ := Qw0_7.out
      have hlw0 := Qw0_7.out.lt
      obtain ⟨qx0_0, qx0_1, qx0_2⟩ := Qx0_7.out
      have hlx0 := Qx0_7.out.lt
      have Og0_7 := Lib.hid HMg.out.own
      have Qg0_7 := Lib.hid HMg.out.at_
      clear HMg
      have hlg0 := Qg0_7.out.lt
      have hkg := hlg0
      obtain ⟨qg0_0, qg0_1, qg0_2⟩ := Qg0_7.out
      go_wp2_with fail
      refine (Me.eqO_any (c') (r') hrl Og0_7.out Ow0_7.out).mono ?_
      rintro e w8 ⟨rfl, hb⟩
      clear qp0_0 qp0_1 qp0_2 qp3_0 qp3_1 qw0_0 qw0_1 qw0_2 qx0_0 qx0_1 qx0_2 qg0_0 qg0_1 qg0_2 hlp0 hlp3 hlw0 hlx0 hlg0
      have hsw8 := hb.size
      have HB8 := Lib.hid (HB7.out.trans (hb.mono HB7.out.size))
      have Qp0_8 := Lib.hid (Qp0_7.out.below hb)
      have Qp3_8 := Lib.hid (Qp3_7.out.below hb)
      have Qw0_8 := Lib.hid (Qw0_7.out.below hb)
      have Qx0_8 := Lib.hid (Qx0_7.out.below hb)
      have Qg0_8 := Lib.hid (Qg0_7.out.below hb)
      have Ow0_8 := Lib.hid (Ow0_7.out.below hb)
      have Ox0_8 := Lib.hid (Ox0_7.out.below hb)
      have Og0_8 := Lib.hid (Og0_7.out.below hb)
      clear hb Qp0_7 Qp3_7 Qw0_7 Qx0_7 Qg0_7 Ow0_7 Ox0_7 Og0_7
      obtain ⟨qp0_0, qp0_1, qp0_2⟩ := Qp0_8.out
      have hlp0 := Qp0_8.out.lt
      obtain ⟨qp3_0, qp3_1⟩ := Qp3_8.out
      have hlp3 := Qp3_8.out.lt
      obtain ⟨qw0_0, qw0_1, qw0_2⟩ := Qw0_8.out
      have hlw0 := Qw0_8.out.lt
      obtain ⟨qx0_0, qx0_1, qx0_2⟩ := Qx0_8.out
      have hlx0 := Qx0_8.out.lt
      obtain ⟨qg0_0, qg0_1, qg0_2⟩ := Qg0_8.out
      have hlg0 := Qg0_8.out.lt
      go_wp2_with fail
      have KB : Hid (w8.cell? ⟨w5.heap.size, 0, none⟩ = some (.int .i64 c0) ∧ w8.cell? ⟨w5.heap.size, 1, none⟩ = some (.int .i64 r0) ∧ w8.cell? ⟨w5.heap.size, 2, none⟩ = some (.slice (some ⟨gx0, 0, none⟩) a0.length a0.length) ∧ w8.cell? ⟨w.heap.size, 0, none⟩ = some (.int .i64 c0) ∧ w8.cell? ⟨w.heap.size, 1, none⟩ = some (.int .i64 r0) ∧ w8.cell? ⟨w.heap.size, 2, none⟩ = some u0 ∧ Below w8.heap.size w8 w8) := Lib.hid ⟨qx0_0, qx0_1, qx0_2, qp0_0, qp0_1, qp0_2, Below.refl _ _⟩
      go_region_held3 (fun W => W.cell? ⟨w5.heap.size, 0, none⟩ = some (.int .i64 c0) ∧ W.cell? ⟨w5.heap.size, 1, none⟩ = some (.int .i64 r0) ∧ W.cell? ⟨w5.heap.size, 2, none⟩ = some (.slice (some ⟨gx0, 0, none⟩) a0.length a0.length) ∧ W.cell? ⟨w.heap.size, 0, none⟩ = some (.int .i64 c0) ∧ W.cell? ⟨w.heap.size, 1, none⟩ = some (.int .i64 r0) ∧ W.cell? ⟨w.heap.size, 2, none⟩ = some u0 ∧ Below w8.heap.size w8 W) (first | (exact keepW6 KB.out (drewG w8)) | (exact keepW6 KB.out y2) | (exact keepW6 KB.out y1) | go_keep) ((first
        | (go_at_call 17; refine (T0.out _ ((X0.out.below HB8.out).below (drewG w8))).mono ?_; rintro e u1 ⟨gy, rfl, hC, hu1⟩; have y1 := undrewG hu1)
        | (go_at_call 19; refine (Me.eqO_any c0 r0 hl0 (Ox0_8.out.below y1) hC).mono ?_; rintro e u2 ⟨rfl, hu2⟩; have y2 := y1.trans (hu2.mono y1.size))))
      rename_i held
      have hb := y2
      clear held KB hC hu1 hu2 y1 y2
      obtain ⟨w10, hew10⟩ : ∃ W, W = u2 := ⟨_, rfl⟩
      rw [← hew10] at hb ⊢
      clear hew10
      clear qp0_0 qp0_1 qp0_2 qp3_0 qp3_1 qw0_0 qw0_1 qw0_2 qx0_0 qx0_1 qx0_2 qg0_0 qg0_1 qg0_2 hlp0 hlp3 hlw0 hlx0 hlg0
      have hsw10 := hb.size
      have HB9 := Lib.hid (HB8.out.trans (hb.mono HB8.out.size))
      have Qp0_9 := Lib.hid (Qp0_8.out.below hb)
      have Qp3_9 := Lib.hid (Qp3_8.out.below hb)
      have Qw0_9 := Lib.hid (Qw0_8.out.below hb)
      have Qx0_9 := Lib.hid (Qx0_8.out.below hb)
      have Qg0_9 := Lib.hid (Qg0_8.out.below hb)
      have Ow0_9 := Lib.hid (Ow0_8.out.below hb)
      have Ox0_9 := Lib.hid (Ox0_8.out.below hb)
      have Og0_9 := Lib.hid (Og0_8.out.below hb)
      clear hb Qp0_8 Qp3_8 Qw0_8 Qx0_8 Qg0_8 Ow0_8 Ox0_8 Og0_8
      obtain ⟨qp0_0, qp0_1, qp0_2⟩ := Qp0_9.out
      have hlp0 := Qp0_9.out.lt
      obtain ⟨qp3_0, qp3_1⟩ := Qp3_9.out
      have hlp3 := Qp3_9.out.lt
      obtain ⟨qw0_0, qw0_1, qw0_2⟩ := Qw0_9.out
      have hlw0 := Qw0_9.out.lt
      obtain ⟨qx0_0, qx0_1, qx0_2⟩ := Qx0_9.out
      have hlx0 := Qx0_9.out.lt
      obtain ⟨qg0_0, qg0_1, qg0_2⟩ := Qg0_9.out
      have hlg0 := Qg0_9.out.lt
      go_wp2_with fail
      refine (Me.markO_int c0 r0 _ (1) (by simp) (by omega) (by omega) (by omega) Ox0_9.out (by omega)).mono ?_
      rintro e w11 ⟨rfl, ho, hm⟩
      clear qp0_0 qp0_1 qp0_2 qp3_0 qp3_1 qw0_0 qw0_1 qw0_2 qx0_0 qx0_1 qx0_2 qg0_0 qg0_1 qg0_2 hlp0 hlp3 hlw0 hlx0 hlg0
      have hsw11 := hm.size
      have HB10 := Lib.hid (HB9.out.trans (hm.below (by omega) (by omega)))
      have Qp0_10 := Lib.hid (Qp0_9.out.mod hm (by omega))
      have Qp3_10 := Lib.hid (Qp3_9.out.mod hm (by omega))
      have Qw0_10 := Lib.hid (Qw0_9.out.mod hm (by omega))
      have Qx0_10 := Lib.hid (Qx0_9.out.mod hm (by omega))
      have Qg0_10 := Lib.hid (Qg0_9.out.mod hm (by omega))
      have Ow0_10 := Lib.hid (Ow0_9.out.mod hm (by omega))
      have Ox0_10 := Lib.hid ho
      have Og0_10 := Lib.hid (Og0_9.out.mod hm (by omega))
      clear hm ho Qp0_9 Qp3_9 Qw0_9 Qx0_9 Qg0_9 Ow0_9 Ox0_9 Og0_9
      obtain ⟨qp0_0, qp0_1, qp0_2⟩ := Qp0_10.out
      have hlp0 := Qp0_10.out.lt
      obtain ⟨qp3_0, qp3_1⟩ := Qp3_10.out
      have hlp3 := Qp3_10.out.lt
      obtain ⟨qw0_0, qw0_1, qw0_2⟩ := Qw0_10.out
      have hlw0 := Qw0_10.out.lt
      obtain ⟨qx0_0, qx0_1, qx0_2⟩ := Qx0_10.out
      have hlx0 := Qx0_10.out.lt
      obtain ⟨qg0_0, qg0_1, qg0_2⟩ := Qg0_10.out
      have hlg0 := Qg0_10.out.lt
      go_wp2_with fail
      refine (Me.eqO_any (c') (r') hrl Og0_10.out Ow0_10.out).mono ?_
      rintro e w12 ⟨rfl, hb⟩
      clear qp0_0 qp0_1 qp0_2 qp3_0 qp3_1 qw0_0 qw0_1 qw0_2 qx0_0 qx0_1 qx0_2 qg0_0 qg0_1 qg0_2 hlp0 hlp3 hlw0 hlx0 hlg0
      have hsw12 := hb.size
      have HB11 := Lib.hid (HB10.out.trans (hb.mono HB10.out.size))
      have Qp0_11 := Lib.hid (Qp0_10.out.below hb)
      have Qp3_11 := Lib.hid (Qp3_10.out.below hb)
      have Qw0_11 := Lib.hid (Qw0_10.out.below hb)
      have Qx0_11 := Lib.hid (Qx0_10.out.below hb)
      have Qg0_11 := Lib.hid (Qg0_10.out.below hb)
      have Ow0_11 := Lib.hid (Ow0_10.out.below hb)
      have Ox0_11 := Lib.hid (Ox0_10.out.below hb)
      have Og0_11 := Lib.hid (Og0_10.out.below hb)
      clear hb Qp0_10 Qp3_10 Qw0_10 Qx0_10 Qg0_10 Ow0_10 Ox0_10 Og0_10
      obtain ⟨qp0_0, qp0_1, qp0_2⟩ := Qp0_11.out
      have hlp0 := Qp0_11.out.lt
      obtain ⟨qp3_0, qp3_1⟩ := Qp3_11.out
      have hlp3 := Qp3_11.out.lt
      obtain ⟨qw0_0, qw0_1, qw0_2⟩ := Qw0_11.out
      have hlw0 := Qw0_11.out.lt
      obtain ⟨qx0_0, qx0_1, qx0_2⟩ := Qx0_11.out
      have hlx0 := Qx0_11.out.lt
      obtain ⟨qg0_0, qg0_1, qg0_2⟩ := Qg0_11.out
      have hlg0 := Qg0_11.out.lt
      go_wp2_with fail
      refine (Me.markO_int (c') (r') _ (1) (by simp) (by omega) (by omega) (by omega) Og0_11.out (by omega)).mono ?_
      rintro e w14 ⟨rfl, ho, hm⟩
      clear qp0_0 qp0_1 qp0_2 qp3_0 qp3_1 qw0_0 qw0_1 qw0_2 qx0_0 qx0_1 qx0_2 qg0_0 qg0_1 qg0_2 hlp0 hlp3 hlw0 hlx0 hlg0
      have hsw14 := hm.size
      have HB12 := Lib.hid (HB11.out.trans (hm.below (by omega) (by omega)))
      have Qp0_12 := Lib.hid (Qp0_11.out.mod hm (by omega))
      have Qp3_12 := Lib.hid (Qp3_11.out.mod hm (by omega))
      have Qw0_12 := Lib.hid (Qw0_11.out.mod hm (by omega))
      have Qx0_12 := Lib.hid (Qx0_11.out.mod hm (by omega))
      have Qg0_12 := Lib.hid (Qg0_11.out.mod hm (by omega))
      have Ow0_12 := Lib.hid (Ow0_11.out.mod hm (by omega))
      have Ox0_12 := Lib.hid (Ox0_11.out.mod hm (by omega))
      have Og0_12 := Lib.hid ho
      clear hm ho Qp0_11 Qp3_11 Qw0_11 Qx0_11 Qg0_11 Ow0_11 Ox0_11 Og0_11
      obtain ⟨qp0_0, qp0_1, qp0_2⟩ := Qp0_12.out
      have hlp0 := Qp0_12.out.lt
      obtain ⟨qp3_0, qp3_1⟩ := Qp3_12.out
      have hlp3 := Qp3_12.out.lt
      obtain ⟨qw0_0, qw0_1, qw0_2⟩ := Qw0_12.out
      have hlw0 := Qw0_12.out.lt
      obtain ⟨qx0_0, qx0_1, qx0_2⟩ := Qx0_12.out
      have hlx0 := Qx0_12.out.lt
      obtain ⟨qg0_0, qg0_1, qg0_2⟩ := Qg0_12.out
      have hlg0 := Qg0_12.out.lt
      go_wp2_with fail
      refine (Me.heldO_int (c') (r') _ (1) (by simp) (by omega) (by omega) (by omega) Og0_12.out).mono ?_
      rintro e w15 ⟨rfl, hb⟩
      clear qp0_0 qp0_1 qp0_2 qp3_0 qp3_1 qw0_0 qw0_1 qw0_2 qx0_0 qx0_1 qx0_2 qg0_0 qg0_1 qg0_2 hlp0 hlp3 hlw0 hlx0 hlg0
      have hsw15 := hb.size
      have HB13 := Lib.hid (HB12.out.trans (hb.mono HB12.out.size))
      have Qp0_13 := Lib.hid (Qp0_12.out.below hb)
      have Qp3_13 := Lib.hid (Qp3_12.out.below hb)
      have Qw0_13 := Lib.hid (Qw0_12.out.below hb)
      have Qx0_13 := Lib.hid (Qx0_12.out.below hb)
      have Qg0_13 := Lib.hid (Qg0_12.out.below hb)
      have Ow0_13 := Lib.hid (Ow0_12.out.below hb)
      have Ox0_13 := Lib.hid (Ox0_12.out.below hb)
      have Og0_13 := Lib.hid (Og0_12.out.below hb)
      clear hb Qp0_12 Qp3_12 Qw0_12 Qx0_12 Qg0_12 Ow0_12 Ox0_12 Og0_12
      obtain ⟨qp0_0, qp0_1, qp0_2⟩ := Qp0_13.out
      have hlp0 := Qp0_13.out.lt
      obtain ⟨qp3_0, qp3_1⟩ := Qp3_13.out
      have hlp3 := Qp3_13.out.lt
      obtain ⟨qw0_0, qw0_1, qw0_2⟩ := Qw0_13.out
      have hlw0 := Qw0_13.out.lt
      obtain ⟨qx0_0, qx0_1, qx0_2⟩ := Qx0_13.out
      have hlx0 := Qx0_13.out.lt
      obtain ⟨qg0_0, qg0_1, qg0_2⟩ := Qg0_13.out
      have hlg0 := Qg0_13.out.lt
      go_wp2_with fail
      have KB : Hid (w15.cell? ⟨w.heap.size, 0, none⟩ = some (.int .i64 (c0)) ∧ w15.cell? ⟨w.heap.size, 1, none⟩ = some (.int .i64 (r0)) ∧ w15.cell? ⟨w.heap.size, 2, none⟩ = some (u0) ∧ w15.cell? ⟨w.heap.size + 1, 0, none⟩ = some (.int .i64 (a3)) ∧ w15.cell? ⟨w.heap.size + 1, 1, none⟩ = some (.int .i64 (b3)) ∧ w15.cell? ⟨Bw, 0, none⟩ = some (.int .i64 (c')) ∧ w15.cell? ⟨Bw, 1, none⟩ = some (.int .i64 (r')) ∧ w15.cell? ⟨Bw, 2, none⟩ = some (.slice Aw L.length Cw) ∧ w15.cell? ⟨w5.heap.size, 0, none⟩ = some (.int .i64 (c0)) ∧ w15.cell? ⟨w5.heap.size, 1, none⟩ = some (.int .i64 (r0)) ∧ w15.cell? ⟨w5.heap.size, 2, none⟩ = some (.slice (some ⟨gx0, 0, none⟩) a0.length a0.length) ∧ w15.cell? ⟨Bg, 0, none⟩ = some (.int .i64 (c')) ∧ w15.cell? ⟨Bg, 1, none⟩ = some (.int .i64 (r')) ∧ w15.cell? ⟨Bg, 2, none⟩ = some (.slice Ag L.length Cg) ∧ Below w15.heap.size w15 w15) := Lib.hid ⟨qp0_0, qp0_1, qp0_2, qp3_0, qp3_1, qw0_0, qw0_1, qw0_2, qx0_0, qx0_1, qx0_2, qg0_0, qg0_1, qg0_2, Below.refl _ _⟩
      go_cut [18, 19] from 20 (fun s0 s1 wx => ∃ (B lo hi : Nat) (A : Option Addr) (C : Nat), s0 = .pointer (some ⟨B, 0, none⟩) ∧ s1 = .int .i64 k ∧ Hid (Me.MRes w15 (c') (r') L B (.slice A L.length C) lo hi wx))
      case first =>
        go_region_held3 (fun W => W.cell? ⟨w.heap.size, 0, none⟩ = some (.int .i64 (c0)) ∧ W.cell? ⟨w.heap.size, 1, none⟩ = some (.int .i64 (r0)) ∧ W.cell? ⟨w.heap.size, 2, none⟩ = some (u0) ∧ W.cell? ⟨w.heap.size + 1, 0, none⟩ = some (.int .i64 (a3)) ∧ W.cell? ⟨w.heap.size + 1, 1, none⟩ = some (.int .i64 (b3)) ∧ W.cell? ⟨Bw, 0, none⟩ = some (.int .i64 (c')) ∧ W.cell? ⟨Bw, 1, none⟩ = some (.int .i64 (r')) ∧ W.cell? ⟨Bw, 2, none⟩ = some (.slice Aw L.length Cw) ∧ W.cell? ⟨w5.heap.size, 0, none⟩ = some (.int .i64 (c0)) ∧ W.cell? ⟨w5.heap.size, 1, none⟩ = some (.int .i64 (r0)) ∧ W.cell? ⟨w5.heap.size, 2, none⟩ = some (.slice (some ⟨gx0, 0, none⟩) a0.length a0.length) ∧ W.cell? ⟨Bg, 0, none⟩ = some (.int .i64 (c')) ∧ W.cell? ⟨Bg, 1, none⟩ = some (.int .i64 (r')) ∧ W.cell? ⟨Bg, 2, none⟩ = some (.slice Ag L.length Cg) ∧ Below w15.heap.size w15 W) (first | (exact keepW14 KB.out (drewG w15)) | (exact keepW14 KB.out (Me.alDm w15 _)) | (exact keepW14 KB.out y1) | (exact keepW14 KB.out (y1.alloc y1.size _)) | (exact keepW14 KB.out y2) | (exact keepW14 KB.out (y2.alloc y2.size _)) | (exact keepW14 KB.out y3) | (exact keepW14 KB.out (y3.alloc y3.size _)) | (exact keepW14 KB.out (Me.set3B y3 (Nat.le_refl _) _ _ _)) | (exact keepW14 KB.out (Me.set3B y3 y1.size _ _ _)) | (exact keepW14 KB.out (Me.set3B y3 y2.size _ _ _)) | go_keep) ((first | (go_at_call 17; (with_reducible refine (T0.out _ (X0.out.below (HB13.out.trans ((drewG w15).mono HB13.out.size)))).mono ?_); rintro e x1 ⟨gt, rfl, hot, hx1⟩; have y1 := undrewG hx1; have R1 := hot.row) | (go_at_call 17; (with_reducible refine (T0.out _ (X0.out.below (HB13.out.trans ((Me.alDm w15 Me.rz).mono HB13.out.size)))).mono ?_); rintro e x1 ⟨gt, rfl, hot, hx1⟩; have y1 := Me.onD hx1; have R1 := hot.row; have zA1 := Me.zOn (Me.zD w15) hx1) | (go_at_call 41; (with_reducible refine (T3.out _).mono ?_); rintro e x2 ⟨rfl, hx2⟩; (first | (have y2 := Me.onN y1 hx2; have R2 := Sp.Row.below R1 hx2; (first | have zA2 := Me.zOn zA1 hx2 | skip)) | (have y2 := Me.onA y1 hx2; have R2 := (Me.rowAl R1 Me.rz).below hx2; have zA2 := Me.zOn (Me.zN x1) hx2))) | (go_at_call 42; (with_reducible refine (F2.out _ _ R2).mono ?_); rintro e x3 ⟨uh0, rfl, hof, hx3⟩; obtain ⟨Ah, Ch, rfl⟩ := hof.len; have y3 := Me.onN y2 hx3; (first | (have zF := Me.zOn zA2 hx3; obtain ⟨⟨s0, s1, s2⟩, t0, t1, t2⟩ := Me.rz_cells zF) | skip)) | (go_at_call 42; (with_reducible refine (F2.out _ _ (Me.rowAl R2 Me.rz)).mono ?_); rintro e x3 ⟨uh0, rfl, hof, hx3⟩; obtain ⟨Ah, Ch, rfl⟩ := hof.len; have y3 := Me.onA y2 hx3; have zF := Me.zOn (Me.zN x2) hx3; obtain ⟨⟨s0, s1, s2⟩, t0, t1, t2⟩ := Me.rz_cells zF)))
        all_goals
          rename_i held
          clear held
          have HOF := Lib.hid hof
          have HY := Lib.hid y3
          have HYP := Lib.hid y2
          try (have HZF := Lib.hid zF)
          have hl1x := hx1.size
          try simp at hl1x
          have hl1y := y1.size
          have hl2x := hx2.size
          try simp at hl2x
          have hl2y := y2.size
          have hl3x := hx3.size
          try simp at hl3x
          have hl3y := y3.size
          go_wp2_with fail
          go_meet
          case rel => first
            | exact ⟨_, _, _, _, _, rfl, rfl, Lib.hid (Me.MRes.after HOF.out HY.out (by first | omega | (simp; omega) | (simp; done)))⟩
            | exact ⟨_, _, _, _, _, rfl, rfl, Lib.hid (Me.MRes.before HOF.out HY.out (by first | omega | (simp; omega) | (simp; done)) HZF.out (by first | omega | (simp; omega) | (simp; done)) (by first | omega | (simp; omega) | (simp; done)))⟩
      case rest =>
        obtain ⟨Bh, loh, hih, Ah, Ch, rfl, rfl, HMh⟩ := hcut
        obtain ⟨w16, rfl⟩ : ∃ W, W = wc := ⟨_, rfl⟩
        have hb := HMh.out.below
        have lwh := HMh.out.low
        have lrh := HMh.out.lowR
        have lhh := HMh.out.high
        have lah := HMh.out.apart
        clear KB
        clear qp0_0 qp0_1 qp0_2 qp3_0 qp3_1 qw0_0 qw0_1 qw0_2 qx0_0 qx0_1 qx0_2 qg0_0 qg0_1 qg0_2 hlp0 hlp3 hlw0 hlx0 hlg0
        have hsw16 := hb.size
        have HB14 := Lib.hid (HB13.out.trans (hb.mono HB13.out.size))
        have Qp0_14 := Lib.hid (Qp0_13.out.below hb)
        have Qp3_14 := Lib.hid (Qp3_13.out.below hb)
        have Qw0_14 := Lib.hid (Qw0_13.out.below hb)
        have Qx0_14 := Lib.hid (Qx0_13.out.below hb)
        have Qg0_14 := Lib.hid (Qg0_13.out.below hb)
        have Ow0_14 := Lib.hid (Ow0_13.out.below hb)
        have Ox0_14 := Lib.hid (Ox0_13.out.below hb)
        have Og0_14 := Lib.hid (Og0_13.out.below hb)
        clear hb Qp0_13 Qp3_13 Qw0_13 Qx0_13 Qg0_13 Ow0_13 Ox0_13 Og0_13
        obtain ⟨qp0_0, qp0_1, qp0_2⟩ := Qp0_14.out
        have hlp0 := Qp0_14.out.lt
        obtain ⟨qp3_0, qp3_1⟩ := Qp3_14.out
        have hlp3 := Qp3_14.out.lt
        obtain ⟨qw0_0, qw0_1, qw0_2⟩ := Qw0_14.out
        have hlw0 := Qw0_14.out.lt
        obtain ⟨qx0_0, qx0_1, qx0_2⟩ := Qx0_14.out
        have hlx0 := Qx0_14.out.lt
        obtain ⟨qg0_0, qg0_1, qg0_2⟩ := Qg0_14.out
        have hlg0 := Qg0_14.out.lt
        have Oh0_14 := Lib.hid HMh.out.own
        have Qh0_14 := Lib.hid HMh.out.at_
        clear HMh
        have hlh0 := Qh0_14.out.lt
        have hkh := hlh0
        obtain ⟨qh0_0, qh0_1, qh0_2⟩ := Qh0_14.out
        go_wp2_with fail
        refine (Me.eqO_any (c') (r') hrl Oh0_14.out Ow0_14.out).mono ?_
        rintro e w17 ⟨rfl, hb⟩
        clear qp0_0 qp0_1 qp0_2 qp3_0 qp3_1 qw0_0 qw0_1 qw0_2 qx0_0 qx0_1 qx0_2 qg0_0 qg0_1 qg0_2 qh0_0 qh0_1 qh0_2 hlp0 hlp3 hlw0 hlx0 hlg0 hlh0
        have hsw17 := hb.size
        have HB15 := Lib.hid (HB14.out.trans (hb.mono HB14.out.size))
        have Qp0_15 := Lib.hid (Qp0_14.out.below hb)
        have Qp3_15 := Lib.hid (Qp3_14.out.below hb)
        have Qw0_15 := Lib.hid (Qw0_14.out.below hb)
        have Qx0_15 := Lib.hid (Qx0_14.out.below hb)
        have Qg0_15 := Lib.hid (Qg0_14.out.below hb)
        have Qh0_15 := Lib.hid (Qh0_14.out.below hb)
        have Ow0_15 := Lib.hid (Ow0_14.out.below hb)
        have Ox0_15 := Lib.hid (Ox0_14.out.below hb)
        have Og0_15 := Lib.hid (Og0_14.out.below hb)
        have Oh0_15 := Lib.hid (Oh0_14.out.below hb)
        clear hb Qp0_14 Qp3_14 Qw0_14 Qx0_14 Qg0_14 Qh0_14 Ow0_14 Ox0_14 Og0_14 Oh0_14
        obtain ⟨qp0_0, qp0_1, qp0_2⟩ := Qp0_15.out
        have hlp0 := Qp0_15.out.lt
        obtain ⟨qp3_0, qp3_1⟩ := Qp3_15.out
        have hlp3 := Qp3_15.out.lt
        obtain ⟨qw0_0, qw0_1, qw0_2⟩ := Qw0_15.out
        have hlw0 := Qw0_15.out.lt
        obtain ⟨qx0_0, qx0_1, qx0_2⟩ := Qx0_15.out
        have hlx0 := Qx0_15.out.lt
        obtain ⟨qg0_0, qg0_1, qg0_2⟩ := Qg0_15.out
        have hlg0 := Qg0_15.out.lt
        obtain ⟨qh0_0, qh0_1, qh0_2⟩ := Qh0_15.out
        have hlh0 := Qh0_15.out.lt
        go_wp2_with fail
        refine (Me.heldO_int (c') (r') _ (1) (by simp) (by omega) (by omega) (by omega) Og0_15.out).mono ?_
        rintro e w19 ⟨rfl, hb⟩
        clear qp0_0 qp0_1 qp0_2 qp3_0 qp3_1 qw0_0 qw0_1 qw0_2 qx0_0 qx0_1 qx0_2 qg0_0 qg0_1 qg0_2 qh0_0 qh0_1 qh0_2 hlp0 hlp3 hlw0 hlx0 hlg0 hlh0
        have hsw19 := hb.size
        have HB16 := Lib.hid (HB15.out.trans (hb.mono HB15.out.size))
        have Qp0_16 := Lib.hid (Qp0_15.out.below hb)
        have Qp3_16 := Lib.hid (Qp3_15.out.below hb)
        have Qw0_16 := Lib.hid (Qw0_15.out.below hb)
        have Qx0_16 := Lib.hid (Qx0_15.out.below hb)
        have Qg0_16 := Lib.hid (Qg0_15.out.below hb)
        have Qh0_16 := Lib.hid (Qh0_15.out.below hb)
        have Ow0_16 := Lib.hid (Ow0_15.out.below hb)
        have Ox0_16 := Lib.hid (Ox0_15.out.below hb)
        have Og0_16 := Lib.hid (Og0_15.out.below hb)
        have Oh0_16 := Lib.hid (Oh0_15.out.below hb)
        clear hb Qp0_15 Qp3_15 Qw0_15 Qx0_15 Qg0_15 Qh0_15 Ow0_15 Ox0_15 Og0_15 Oh0_15
        obtain ⟨qp0_0, qp0_1, qp0_2⟩ := Qp0_16.out
        have hlp0 := Qp0_16.out.lt
        obtain ⟨qp3_0, qp3_1⟩ := Qp3_16.out
        have hlp3 := Qp3_16.out.lt
        obtain ⟨qw0_0, qw0_1, qw0_2⟩ := Qw0_16.out
        have hlw0 := Qw0_16.out.lt
        obtain ⟨qx0_0, qx0_1, qx0_2⟩ := Qx0_16.out
        have hlx0 := Qx0_16.out.lt
        obtain ⟨qg0_0, qg0_1, qg0_2⟩ := Qg0_16.out
        have hlg0 := Qg0_16.out.lt
        obtain ⟨qh0_0, qh0_1, qh0_2⟩ := Qh0_16.out
        have hlh0 := Qh0_16.out.lt
        go_wp2_with fail
        go_ret
        exact ⟨rfl, HB16.out⟩

set_option maxRecDepth 100000 in
set_option maxHeartbeats 2000000 in
theorem contract (H : Type) (enc : TypeId × Value → H) (W : World) (base : Nat) (args : Array Value) (ds gs : List (DataW H)) (before : List MemPlace)
    (hval : ∀ (j : Nat) t v, Try.f11.params[j]? = some t → args[j]? = some v → Value.okWide Try.prog W .any base t v)
    (hW : DataW.Whole enc Try.prog Try.f11.params.toList Rows.fnExactMoveMeshPointSpec.vars false W args.toList ds gs before) (henv : Env W) :
    Calls Try.prog 11 args W fun e W' => ∃ v, e = .returned v ∧ Rows.fnExactMoveMeshPointSpec.post enc Try.prog Try.f11 false true false false W args v W' := by
  have hW' := hW
  obtain ⟨p, q, hA0, hV, rfl, hfz, hnd⟩ := hW
  have hA : DataW.TrodAll enc Try.prog W 0 (fun _ => true) true Try.f11.params.toList args.toList ds p := hA0
  rw [Try.params11] at hA hval
  obtain ⟨v0, vs0, d0, ds0, p0, q0, hargs0, rfl, rfl, h0, r0⟩ := trodAll_cons hA
  obtain ⟨v1, vs1, d1, ds1, p1, q1, hargs1, rfl, rfl, h1, r1⟩ := trodAll_cons r0
  obtain ⟨v2, vs2, d2, ds2, p2, q2, hargs2, rfl, rfl, h2, r2⟩ := trodAll_cons r1
  obtain ⟨v3, vs3, d3, ds3, p3, q3, hargs3, rfl, rfl, h3, r3⟩ := trodAll_cons r2
  obtain ⟨rfl, rfl, rfl⟩ := trodAll_nil r3
  obtain rfl : args = #[v0, v1, v2, v3] := by cases args; simp_all
  obtain ⟨rfl, rfl⟩ := trodVars_none hV
  have h0k := h0
  obtain ⟨c0, rr0, u0, a0, rfl, w01, w02, x0, n0⟩ := Me.mesh_open (hval 0 24 v0 rfl rfl) h0
  obtain ⟨a1, rfl, rfl, rfl, w1⟩ := open_int Try.underlying2 (hval 1 2 v1 rfl rfl) h1
  obtain ⟨a2, rfl, rfl, rfl, w2⟩ := open_int Try.underlying2 (hval 2 2 v2 rfl rfl) h2
  obtain ⟨va3, vb3, ya3, yb3, n3, rfl, rfl, rfl, ta3, tb3⟩ := Go.Joins.open_agg2 Try.underlying52 (by kernel_rfl) (by kernel_rfl) (hval 3 52 v3 rfl rfl) h3
  obtain ⟨a3, ea3, rfl, w3⟩ := DataW.trod_int Try.underlying2 ta3
  obtain ⟨b3, eb3, rfl, x3⟩ := DataW.trod_int Try.underlying2 tb3
  obtain rfl : va3 = .int .i64 a3 := by simpa using ea3
  obtain rfl : vb3 = .int .i64 b3 := by simpa using eb3
  clear hA0
  have hltp : ∀ x ∈ p0 ++ ([] ++ ([] ++ ([] ++ []))) ++ [], x.block < W.heap.size := fun x hx => hW'.lt x hx
  refine (walk W c0 rr0 u0 a0 ⟨w01, w02⟩ x0 n0 a1 w1 a2 w2 a3 b3 w3 x3 henv).mono fun e W' ⟨he, hg⟩ => ?_
  subst he
  exact ⟨_, rfl, post_of_below (pa := p0 ++ ([] ++ ([] ++ ([] ++ [])))) (pv := []) hW' (fun _ _ _ => (trodAll_cons_mk (shut_bool Try.underlying4 _) trodAll_mk0)) (fun sp hsp => (trodAll_cons_mk (WideElems.Trod_stays (by kernel_rfl) (by kernel_rfl) (of_decide_eq_true (by kernel_rfl)) h0k (fun x hx => hg.same (hltp x (by simp [hx]))) (fun x hx => hsp x (by simp [hx]))) (trodAll_cons_mk (shut_int Try.underlying2 w1) (trodAll_cons_mk (shut_int Try.underlying2 w2) (trodAll_cons_mk (Go.Joins.shut_agg2 (y0 := (.lit (.int .i64 a3), [])) (y1 := (.lit (.int .i64 b3), [])) Try.underlying52 (by kernel_rfl) (by kernel_rfl) ⟨1, trod_int_mk 0 Try.underlying2 w3⟩ ⟨1, trod_int_mk 0 Try.underlying2 x3⟩) trodAll_mk0))))) (fun _ _ => rfl) rfl
    hg (ok_one (by kernel_rfl) rfl (okWide_bool_mk Try.underlying4 _))⟩

set_option maxRecDepth 100000 in
theorem lifted (os : Os) (started : os.Started) (H : Type) (enc : TypeId × Value → H) :
    ReturnsInHanded {} Try.checked os 11 .any (Rows.fnExactMoveMeshPointSpec.pre6 enc Try.prog Try.f11 Rows.fnExactMoveMeshPointRow.domain false) (Rows.fnExactMoveMeshPointSpec.post enc Try.prog Try.f11 false true false false) := by
  refine returnsInHanded_of_change (C := Try.checked) own started (by kernel_rfl) Try.func11
    (ChangeSpec.witness6 (enc := enc) (C := Try.checked) false ⟨#[], #[.agg #[.int .i64 0, .int .i64 0, .slice none 0 0], .int .i64 0, .int .i64 0, .agg #[.int .i64 0, .int .i64 0]], []⟩ 8 (by kernel_rfl) (by kernel_rfl) (by kernel_rfl) (by kernel_rfl)) ?_
  intro W base args ds gs before hval hW _ _
  exact contract H enc W base args ds gs before hval hW trivial

theorem over : Rows.fnExactMoveMeshPointRow.holds Try.pinned (OpenSpec.ofChange Rows.fnExactMoveMeshPointSpec) :=
  OpenClaim.holds_of_wide 11 Try.f11 rfl rfl rfl rfl rfl rfl rfl ⟨rfl, rfl, rfl, rfl, rfl⟩ rfl rfl rfl rfl rfl (by kernel_rfl) Try.func11 (by kernel_rfl)
    (of_decide_eq_true (by kernel_rfl)) (by unfold Func.isWrapper; first | (rw [if_pos (by decide +kernel)]; kernel_rfl) | (rw [if_neg (by decide +kernel)]; exact ⟨rfl, rfl⟩))
    (fun os started H enc _ => lifted os started H enc)

theorem proved : Rows.FnExactMoveMeshPointSaid :=
  over
#print axioms proved
end Go.Proofs.Ytbbkohpmncfilaa.fnExactMoveMeshPoint
