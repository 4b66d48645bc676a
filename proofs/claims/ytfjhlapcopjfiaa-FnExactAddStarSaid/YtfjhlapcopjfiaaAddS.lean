/-
  AddStar (package spec).
-/
import Derived.Test.YtfjhlapcopjfiaaDropS
import Derived.Test.YtfjhlapcopjfiaaCopy5
import Derived.Test.YtfjhlapcopjfiaaAngMath
import Derived.IntWalk
import Derived.Deep.QuietTactic
import Derived.BigQuiet
namespace Go.Proofs.Ytfjhlapcopjfiaa
open Go.RowKit
set_option linter.unusedVariables false

/-- Where a new name belongs. -/
theorem less_tot : ∀ x y : List UInt8, Op.bytesLess y x = (!Op.bytesLess x y && !(x == y))
  | [], [] => rfl
  | [], b :: y => by simp [Op.bytesLess]
  | a :: x, [] => by simp [Op.bytesLess]
  | a :: x, b :: y => by
    have ih := less_tot x y
    by_cases h : a = b
    · subst h
      simp [Op.bytesLess, ih]
    · have h' : ¬ b = a := fun e => h e.symm
      have hn : a.toNat ≠ b.toNat := fun e => h (UInt8.toNat_inj.1 e)
      have e : decide (b < a) = !decide (a < b) := by
        by_cases c : a < b
        · have c' : ¬ b < a := by rw [UInt8.lt_iff_toNat_lt] at *; omega
          simp [c, c']
        · have c' : b < a := by rw [UInt8.lt_iff_toNat_lt] at *; omega
          simp [c, c']
      have h1 : (a == b) = false := beq_eq_false_iff_ne.2 h
      have h2 : (b == a) = false := beq_eq_false_iff_ne.2 h'
      have h3 : ((a :: x) == (b :: y)) = false := by simp [h]
      rw [h3]
      show (decide (b < a) || (b == a && Op.bytesLess y x)) = (!(decide (a < b) || (a == b && Op.bytesLess x y)) && !false)
      rw [h1, h2, e]
      simp

def gtP (zs : List StarV) (s : ByteArray) (i : Nat) : Bool := ltS s (zs.getD i star0).s
def atS (zs : List StarV) (s : ByteArray) : Nat := cnt zs.length (gtP zs s)
theorem atS_le (zs : List StarV) (s : ByteArray) : atS zs s ≤ zs.length := cnt_le _ _
theorem gtP_mono {zs : List StarV} (h : okL zs = true) (s : ByteArray) (a b : Nat) (hab : a ≤ b) (hb : b < zs.length) (ha : gtP zs s a = true) : gtP zs s b = true := by
  by_cases c : a = b
  · subst c; exact ha
  · unfold gtP at *
    rw [getD_at zs a (by omega)] at ha
    rw [getD_at zs b hb]
    have h2 := okL_lt h (b - a - 1) a (by omega)
    have e : a + (b - a - 1) + 1 = b := by omega
    simp only [e] at h2
    exact ltS_trans ha h2
theorem atS_iff {zs : List StarV} (h : okL zs = true) (s : ByteArray) (i : Nat) (hi : i < zs.length) : gtP zs s i = true ↔ atS zs s ≤ i := cnt_iff zs.length (gtP zs s) (gtP_mono h s) i hi
theorem atS_here {zs : List StarV} (h : okL zs = true) (s : ByteArray) (k : Nat) (hk : k ≤ zs.length) (h1 : k < zs.length → gtP zs s k = true) (h2 : 0 < k → gtP zs s (k - 1) = false) : atS zs s = k := by
  have h3 : atS zs s ≤ k := by
    by_cases c : k < zs.length
    · exact (atS_iff h s k c).1 (h1 c)
    · have := atS_le zs s
      omega
  by_cases c : k = 0
  · omega
  · have := mt (atS_iff h s (k - 1) (by omega)).2 (by rw [h2 (by omega)]; simp)
    omega

/-- What AddStar answers. -/
def addV (zs : List StarV) (x : StarV) : List StarV × Int :=
  if (okL zs && x.good) = true then (if fndS zs x.s < zs.length then ([], 4) else if zs.length = 24 then ([], 5) else (zs.take (atS zs x.s) ++ [x] ++ zs.drop (atS zs x.s), 0)) else ([], 1)
theorem addV_len (zs : List StarV) (x : StarV) : (addV zs x).1.length ≤ zs.length + 1 := by
  unfold addV
  split
  · split
    · exact Nat.zero_le _
    · split
      · exact Nat.zero_le _
      · show (zs.take _ ++ [x] ++ zs.drop _).length ≤ _
        rw [List.length_append, List.length_append, List.length_take, List.length_drop]
        simp only [List.length_cons, List.length_nil]
        omega
  · exact Nat.zero_le _
theorem src_take {w w0 : World} {g : Nat} {zs : List StarV} (h : Row w0 g zs) (k : Nat) (hb : Below w0.heap.size w0 w) : ∀ j u, (flatS (zs.take k))[j]? = some u → w.cell? ((⟨g, 0, none⟩ : Addr).add j) = some u := fun j u hj => by
  rw [flatS_take] at hj
  refine (h.below hb).src 0 j u ?_
  rw [List.drop_zero]
  rw [List.getElem?_take] at hj
  split at hj
  · exact hj
  · cases hj
theorem src_drop {w w0 : World} {g : Nat} {zs : List StarV} (h : Row w0 g zs) (k : Nat) (hb : Below w0.heap.size w0 w) : ∀ j u, (flatS (zs.drop k))[j]? = some u → w.cell? ((⟨g, k * 5, none⟩ : Addr).add j) = some u := fun j u hj => by
  rw [flatS_drop] at hj
  exact (h.below hb).src (k * 5) j u hj

theorem new_cells (W : World) (cs : List Value) (T : TypeId) : ∀ j u, cs[j]? = some u → (W.alloc (.cells cs.toArray T)).cell? ((⟨W.heap.size, 0, none⟩ : Addr).add j) = some u := by
  intro j u hj
  have ea : ((⟨W.heap.size, 0, none⟩ : Addr).add j) = ⟨W.heap.size, j, none⟩ := by unfold Addr.add; split <;> simp_all
  rw [ea, World.cell?_alloc_at _ _ _ _ rfl]
  show cs.toArray[j]? = some u
  simpa using hj
theorem bel_dA {B : Nat} {a w : World} (h : Below B a w) (n : Nat) : Below B a (w.drewN n) := ⟨h.os, h.tape, h.output, h.size, h.block⟩

set_option maxRecDepth 100000 in
set_option maxHeartbeats 8000000 in
theorem specAdd_any (g : Nat) (zs : List StarV) (xs : ByteArray) (xa xb xc xd : Int) (w : World) (hb : zs.length ≤ 1048577) (h1 : Row w g zs) :
    Calls Try.prog 52 #[.slice (some ⟨g, 0, none⟩) zs.length zs.length, .agg #[.string xs, .int .i64 xa, .int .i64 xb, .int .i64 xc, .int .i64 xd]] w (SPost (addV zs ⟨xs, xa, xb, xc, xd⟩) w) := by
  have hbz : Below w.heap.size w (w.alloc (Obj.cells #[.string xs, .int .i64 xa, .int .i64 xb, .int .i64 xc, .int .i64 xd] 26)) := (Below.refl _ _).alloc (Nat.le_refl _) _
  have hxz : StarAt (w.alloc (Obj.cells #[.string xs, .int .i64 xa, .int .i64 xb, .int .i64 xc, .int .i64 xd] 26)) w.heap.size 0 ⟨xs, xa, xb, xc, xd⟩ := ⟨by simp, by simp, by simp, by simp, by simp⟩
  have hlz : w.heap.size < (w.alloc (Obj.cells #[.string xs, .int .i64 xa, .int .i64 xb, .int .i64 xc, .int .i64 xd] 26)).heap.size := by simp
  have V := Lib.hid (l05Ok_any g zs.length zs _ hb (h1.below hbz))
  have ON := Lib.hid (fun (W : World) h => l05One_at w.heap.size 0 ⟨xs, xa, xb, xc, xd⟩ W h)
  have F := Lib.hid (fun (W : World) (hB : Below w.heap.size w W) => l05Find_any g zs.length zs xs W hb (h1.below hB))
  have HBZ := Lib.hid hbz
  have HXZ := Lib.hid hxz
  have H1 := Lib.hid h1
  clear h1 hbz hxz
  unfold addV
  cases ho : okL zs with
  | false =>
    rw [if_neg (by simp)]
    rw [ho] at V
    clear ho
    go_enter Try.func52, Try.ntmps52
    go_wp2_with fail
    refine V.out.mono ?_
    rintro e w1 ⟨rfl, hb1⟩
    have HB1 := Lib.hid (HBZ.out.trans (hb1.mono (Nat.le_of_lt hlz)))
    clear hb1
    go_wp2_with fail
    go_ret2
    exact ⟨_, rfl, SOwn.nil _ _, HB1.out⟩
  | true =>
    rw [ho] at V
    have hz24 := okL_lenD ho
    have HERE := Lib.hid (fun k hk h1 h2 => atS_here ho xs k hk h1 h2)
    clear ho
    cases hg : StarV.good ⟨xs, xa, xb, xc, xd⟩ with
    | false =>
      rw [if_neg (by simp)]
      rw [hg] at ON
      clear hg
      go_enter Try.func52, Try.ntmps52
      go_wp2_with fail
      refine V.out.mono ?_
      rintro e w1 ⟨rfl, hb1⟩
      have HB1 := Lib.hid (HBZ.out.trans (hb1.mono (Nat.le_of_lt hlz)))
      have HX1 := Lib.hid (HXZ.out.below hb1)
      clear hb1
      go_wp2_with fail
      refine (ON.out _ HX1.out).mono ?_
      rintro e w2 ⟨rfl, q, rfl⟩
      go_wp2_with fail
      go_ret2
      exact ⟨_, rfl, SOwn.nil _ _, bel_dA HB1.out q⟩
    | true =>
      rw [if_pos (by simp)]
      rw [hg] at ON
      clear hg
      by_cases hf : fndS zs xs < zs.length
      · rw [if_pos hf]
        have fe : fndI zs xs = (fndS zs xs : Int) := if_pos hf
        rw [fe] at F
        clear fe
        generalize fndS zs xs = f at *
        go_enter Try.func52, Try.ntmps52
        go_wp2_with fail
        refine V.out.mono ?_
        rintro e w1 ⟨rfl, hb1⟩
        have HB1 := Lib.hid (HBZ.out.trans (hb1.mono (Nat.le_of_lt hlz)))
        have HX1 := Lib.hid (HXZ.out.below hb1)
        clear hb1
        go_wp2_with fail
        refine (ON.out _ HX1.out).mono ?_
        rintro e w2 ⟨rfl, q, rfl⟩
        have HB2 := Lib.hid (bel_dA HB1.out q)
        have HX2 : Hid (StarAt (w1.drewN q) w.heap.size 0 ⟨xs, xa, xb, xc, xd⟩) := Lib.hid ⟨HX1.out.c0, HX1.out.c1, HX1.out.c2, HX1.out.c3, HX1.out.c4⟩
        generalize w1.drewN q = w2 at *
        have c0 := HX2.out.c0
        simp only at c0
        go_wp2_with fail
        refine (F.out _ HB2.out).mono ?_
        rintro e w' ⟨rfl, rfl⟩
        go_wp2_with fail
        go_ret2
        exact ⟨_, rfl, SOwn.nil _ _, HB2.out⟩
      · rw [if_neg hf]
        have fe : fndI zs xs = -1 := if_neg hf
        rw [fe] at F
        clear fe hf
        by_cases h24 : zs.length = 24
        · rw [if_pos h24]
          have h24' : (zs.length : Int) = 24 := by omega
          clear h24
          go_enter Try.func52, Try.ntmps52
          go_wp2_with fail
          refine V.out.mono ?_
          rintro e w1 ⟨rfl, hb1⟩
          have HB1 := Lib.hid (HBZ.out.trans (hb1.mono (Nat.le_of_lt hlz)))
          have HX1 := Lib.hid (HXZ.out.below hb1)
          clear hb1
          go_wp2_with fail
          refine (ON.out _ HX1.out).mono ?_
          rintro e w2 ⟨rfl, q, rfl⟩
          have HB2 := Lib.hid (bel_dA HB1.out q)
          have HX2 : Hid (StarAt (w1.drewN q) w.heap.size 0 ⟨xs, xa, xb, xc, xd⟩) := Lib.hid ⟨HX1.out.c0, HX1.out.c1, HX1.out.c2, HX1.out.c3, HX1.out.c4⟩
          generalize w1.drewN q = w2 at *
          have c0 := HX2.out.c0
          simp only at c0
          go_wp2_with fail
          refine (F.out _ HB2.out).mono ?_
          rintro e w' ⟨rfl, rfl⟩
          go_wp2_with fail
          go_ret2
          exact ⟨_, rfl, SOwn.nil _ _, HB2.out⟩
        · rw [if_neg h24]
          have h24' : ¬ (zs.length : Int) = 24 := by omega
          clear h24
          obtain ⟨i0, hi, hzz⟩ := Option.map_eq_some_iff.1 info_star
          simp only [Prod.mk.injEq] at hzz
          obtain ⟨hz0, hz1, hz2⟩ := hzz
          have hxl : w.heap.size < (w.alloc (Obj.cells #[.string xs, .int .i64 xa, .int .i64 xb, .int .i64 xc, .int .i64 xd] 26)).heap.size := hlz
          have RES : Hid (∀ k W v, atS zs xs = k → k ≤ zs.length → W.ownsRow w.heap.size 26 5 v (k + 1 + (zs.length - k)) (flatS (zs.take k) ++ [.string xs, .int .i64 xa, .int .i64 xb, .int .i64 xc, .int .i64 xd] ++ flatS (zs.drop k)) → SOwn W w.heap.size v (zs.take (atS zs xs) ++ [⟨xs, xa, xb, xc, xd⟩] ++ zs.drop (atS zs xs))) := Lib.hid (fun k W v he hk h => by
            rw [he]
            unfold SOwn
            rw [flatS_app, flatS_app, List.length_append, List.length_append, List.length_take, List.length_drop, Nat.min_eq_left hk]
            exact h)
          generalize zs.take (atS zs xs) ++ [⟨xs, xa, xb, xc, xd⟩] ++ zs.drop (atS zs xs) = R at *
          generalize atS zs xs = at' at *
          go_enter Try.func52, Try.ntmps52
          go_wp2_with fail
          refine V.out.mono ?_
          rintro e w1 ⟨rfl, hb1⟩
          have HB1 := Lib.hid (HBZ.out.trans (hb1.mono (Nat.le_of_lt hlz)))
          have HX1 := Lib.hid (HXZ.out.below hb1)
          clear hb1
          go_wp2_with fail
          refine (ON.out _ HX1.out).mono ?_
          rintro e w2 ⟨rfl, q, rfl⟩
          have HB2 := Lib.hid (bel_dA HB1.out q)
          have HX2 : Hid (StarAt (w1.drewN q) w.heap.size 0 ⟨xs, xa, xb, xc, xd⟩) := Lib.hid ⟨HX1.out.c0, HX1.out.c1, HX1.out.c2, HX1.out.c3, HX1.out.c4⟩
          generalize w1.drewN q = w2 at *
          have c0 := HX2.out.c0
          simp only at c0
          go_wp2_with fail
          refine (F.out _ HB2.out).mono ?_
          rintro e w' ⟨rfl, rfl⟩
          go_wp2_with fail
          go_loopg [6] (zs.length + 1) (fun kx s6 wr => ∃ (k n : Nat), s6 = .int .i64 (k : Int) ∧ k ≤ zs.length ∧ kx = k + 1 ∧ wr = w2.drewN n ∧ Hid (∀ j, k ≤ j → j < zs.length → gtP zs xs j = true))
          case atStart => exact ⟨zs.length, 0, rfl, Nat.le_refl _, rfl, rfl, Lib.hid (fun j h1 h2 => absurd h2 (by omega))⟩
          case round =>
            obtain ⟨k, n, rfl, hk, rfl, rfl, HP⟩ := hrel
            have c1 : (w2.drewN n).cell? ⟨w.heap.size, 0, none⟩ = some (.string xs) := c0
            have HB3 := Lib.hid (bel_dA HB2.out n)
            by_cases hk0 : 0 < k
            · have kp : (0 : Int) < (k : Int) := by omega
              obtain ⟨m, hm⟩ : ∃ m : Nat, k = m + 1 := ⟨k - 1, by omega⟩
              have ek : (k : Int) - 1 = (m : Int) := by omega
              have wm : IntKind.i64.wrap (m : Int) = (m : Int) := IntWalk.i64_in _ (by omega)
              have m0 : (0 : Int) ≤ (m : Int) := by omega
              have m1 : (m : Int) < (zs.length : Int) := by omega
              have ml : m < zs.length := by omega
              have ck := (H1.out.below HB2.out).at m ml
              have ck0 := ck.c0
              have GP : gtP zs xs m = Op.bytesLess xs.toList zs[m].s.toList := by
                unfold gtP ltS
                rw [getD_at zs m ml]
              have HM := Lib.hid hm
              clear ck hm
              generalize zs[m].s = t at *
              have T := less_tot t.toList xs.toList
              cases hb1 : Op.bytesLess t.toList xs.toList with
              | true =>
                have HE : Hid (at' = k) := Lib.hid (HERE.out k hk (fun h => HP.out k (Nat.le_refl _) h) (fun _ => by rw [show k - 1 = m by have := HM.out; omega, GP, T, hb1]; rfl))
                clear T GP
                go_wp2_with fail
                go_quiet (fail)
                rename Nat => q1
                have HB4 := Lib.hid (bel_dA HB3.out q1)
                have HX4 : Hid (StarAt ((w2.drewN n).drewN q1) w.heap.size 0 ⟨xs, xa, xb, xc, xd⟩) := Lib.hid ⟨HX2.out.c0, HX2.out.c1, HX2.out.c2, HX2.out.c3, HX2.out.c4⟩
                have hwq : w.heap.size < ((w2.drewN n).drewN q1).heap.size := World.block_lt_of_cell? _ ⟨w.heap.size, 0, none⟩ HX4.out.c0
                clear c0 c1 HB3 HB2 HX2 HX1 HB1 HERE HP V ON F
                generalize (w2.drewN n).drewN q1 = wq at HB4 HX4 hwq ⊢
                have own0 : (wq.alloc (Obj.cells #[] 26)).ownsRow w.heap.size 26 5 (.slice (some ⟨wq.heap.size, 0, none⟩) 0 0) 0 [] := World.ownsRow_made wq #[] 0 HB4.out.size (Nat.zero_le _) rfl
                have hb2 : Below w.heap.size w (wq.alloc (Obj.cells #[] 26)) := HB4.out.alloc HB4.out.size _
                have KX : Hid (∀ W', (wq.alloc (Obj.cells #[] 26)).grownBy W' (some wq.heap.size) → StarAt W' w.heap.size 0 ⟨xs, xa, xb, xc, xd⟩) := Lib.hid (fun W' hg => by
                  have hx := HX4.out.below ((Below.refl wq.heap.size wq).alloc (Nat.le_refl _) (Obj.cells #[] 26))
                  have hbk := hg.block w.heap.size (by simp; omega) (by simp; omega)
                  have e : ∀ i, W'.cell? ⟨w.heap.size, i, none⟩ = (wq.alloc (Obj.cells #[] 26)).cell? ⟨w.heap.size, i, none⟩ := fun i => World.cell?_of_block (a := ⟨w.heap.size, i, none⟩) hbk
                  exact ⟨(e _).trans hx.c0, (e _).trans hx.c1, (e _).trans hx.c2, (e _).trans hx.c3, (e _).trans hx.c4⟩)
                have L1 : (flatS (zs.take k)).length = k * 5 := by rw [flatS_len, List.length_take]; omega
                have L2 : (flatS (zs.drop k)).length = (zs.length - k) * 5 := by rw [flatS_len, List.length_drop]
                have P1 := Lib.hid (flatS_one (zs.take k))
                have P2 := Lib.hid (flatS_one (zs.drop k))
                have PX : Hid (∀ u ∈ [Value.string xs, .int .i64 xa, .int .i64 xb, .int .i64 xc, .int .i64 xd], u.oneCell' = true) := Lib.hid (by
                  intro u hu
                  simp only [List.mem_cons, List.not_mem_nil, or_false] at hu
                  rcases hu with rfl | rfl | rfl | rfl | rfl <;> rfl)
                have S1 : Hid (∀ W, Below w.heap.size w W → ∀ j u, (flatS (zs.take k))[j]? = some u → W.cell? ((⟨g, 0, none⟩ : Addr).add j) = some u) := Lib.hid (fun W hB => src_take H1.out k hB)
                have S2 : Hid (∀ W, Below w.heap.size w W → ∀ j u, (flatS (zs.drop k))[j]? = some u → W.cell? ((⟨g, k * 5, none⟩ : Addr).add j) = some u) := Lib.hid (fun W hB => src_drop H1.out k hB)
                have RE := Lib.hid (fun W v h => RES.out k W v HE.out hk h)
                clear RES
                generalize flatS (zs.take k) = X1 at L1 P1 S1 RE
                generalize flatS (zs.drop k) = X2 at L2 P2 S2 RE
                have k0 : (0 : Int) ≤ (k : Int) := by omega
                have k1 : (k : Int) ≤ (zs.length : Int) := by omega
                have hm1 : 0 + k ≤ maxLen := by unfold maxLen; omega
                have hy1 : (0 + k) * 48 ≤ 140737488355328 := by omega
                have hm2 : k + 1 ≤ maxLen := by unfold maxLen; omega
                have hy2 : (k + 1) * 48 ≤ 140737488355328 := by omega
                by_cases hlast : k < zs.length
                · have l1 : (k : Int) < (zs.length : Int) := by omega
                  have hm3 : k + 1 + (zs.length - k) ≤ maxLen := by unfold maxLen; omega
                  have hy3 : (k + 1 + (zs.length - k)) * 48 ≤ 140737488355328 := by omega
                  go_wp2_with (first
                    | (at_builtin; refine wpList_append_own _ rfl _ _ 32 rfl w.heap.size 26 i0 (.agg #[.string ByteArray.empty, .int .i64 0, .int .i64 0, .int .i64 0, .int .i64 0]) 5 48 Try.underlying32 hi hz0 hz1 hz2 rfl (by decide) _ _ _ rfl hown5 ⟨g, k * 5, none⟩ (zs.length - k) (zs.length - k) X2 rfl L2 (S2.out _ hb5) P2.out hm3 hy3 hb5.size ?_; intro v7 w7 hown7 hgrow7 _; have hb7 : Below w.heap.size w w7 := hb5.grown hgrow7 hb5.size (fun kk hk => (hown5.lt kk hk).1))
                    | (at_builtin; refine wpList_append_own _ rfl _ _ 32 rfl w.heap.size 26 i0 (.agg #[.string ByteArray.empty, .int .i64 0, .int .i64 0, .int .i64 0, .int .i64 0]) 5 48 Try.underlying32 hi hz0 hz1 hz2 rfl (by decide) _ _ _ rfl (hown4.alloc _) ⟨w3.heap.size, 0, none⟩ 1 1 [.string xs, .int .i64 xa, .int .i64 xb, .int .i64 xc, .int .i64 xd] rfl rfl (new_cells w3 _ _) PX.out hm2 hy2 (Nat.le_trans hb3.size (by simp)) ?_; intro v5 w5 hown5 hgrow5 _; have hb5 : Below w.heap.size w w5 := (hb3.alloc hb3.size _).grown hgrow5 (Nat.le_trans hb3.size (by simp)) (fun kk hk => (hown4.lt kk hk).1))
                    | (at_builtin; refine wpList_append_own _ rfl _ _ 32 rfl w.heap.size 26 i0 (.agg #[.string ByteArray.empty, .int .i64 0, .int .i64 0, .int .i64 0, .int .i64 0]) 5 48 Try.underlying32 hi hz0 hz1 hz2 rfl (by decide) _ _ _ rfl own0 ⟨g, 0, none⟩ k _ X1 rfl L1 (S1.out _ hb2) P1.out hm1 hy1 hb2.size ?_; intro v3 w3 hown3 hgrow3 _; have hb3 : Below w.heap.size w w3 := hb2.grown hgrow3 hb2.size (fun kk hk => (own0.lt kk hk).1); have hown4 : w3.ownsRow w.heap.size 26 5 v3 k X1 := (by simpa using hown3); obtain ⟨z0, z1, z2, z3, z4⟩ := KX.out w3 hgrow3))
                  go_ret2
                  exact SPost.of (RE.out _ _ hown7) hb7
                · have l1 : zs.length = k := by omega
                  have hX2 : X2 = [] := List.length_eq_zero_iff.1 (by rw [L2]; omega)
                  subst hX2
                  have hm3 : k + 1 + 0 ≤ maxLen := by unfold maxLen; omega
                  have hy3 : (k + 1 + 0) * 48 ≤ 140737488355328 := by omega
                  have P3 : ∀ u ∈ ([] : List Value), u.oneCell' = true := fun u hu => by cases hu
                  go_wp2_with (first
                    | (at_builtin; refine wpList_append_own _ rfl _ _ 32 rfl w.heap.size 26 i0 (.agg #[.string ByteArray.empty, .int .i64 0, .int .i64 0, .int .i64 0, .int .i64 0]) 5 48 Try.underlying32 hi hz0 hz1 hz2 rfl (by decide) _ _ _ rfl hown5 ⟨g, 0, none⟩ 0 0 [] rfl rfl (fun j u hj => by simp at hj) P3 hm3 hy3 hb5.size ?_; intro v7 w7 hown7 hgrow7 _; have hb7 : Below w.heap.size w w7 := hb5.grown hgrow7 hb5.size (fun kk hk => (hown5.lt kk hk).1))
                    | (at_builtin; refine wpList_append_own _ rfl _ _ 32 rfl w.heap.size 26 i0 (.agg #[.string ByteArray.empty, .int .i64 0, .int .i64 0, .int .i64 0, .int .i64 0]) 5 48 Try.underlying32 hi hz0 hz1 hz2 rfl (by decide) _ _ _ rfl (hown4.alloc _) ⟨w3.heap.size, 0, none⟩ 1 1 [.string xs, .int .i64 xa, .int .i64 xb, .int .i64 xc, .int .i64 xd] rfl rfl (new_cells w3 _ _) PX.out hm2 hy2 (Nat.le_trans hb3.size (by simp)) ?_; intro v5 w5 hown5 hgrow5 _; have hb5 : Below w.heap.size w w5 := (hb3.alloc hb3.size _).grown hgrow5 (Nat.le_trans hb3.size (by simp)) (fun kk hk => (hown4.lt kk hk).1))
                    | (at_builtin; refine wpList_append_own _ rfl _ _ 32 rfl w.heap.size 26 i0 (.agg #[.string ByteArray.empty, .int .i64 0, .int .i64 0, .int .i64 0, .int .i64 0]) 5 48 Try.underlying32 hi hz0 hz1 hz2 rfl (by decide) _ _ _ rfl own0 ⟨g, 0, none⟩ k _ X1 rfl L1 (S1.out _ hb2) P1.out hm1 hy1 hb2.size ?_; intro v3 w3 hown3 hgrow3 _; have hb3 : Below w.heap.size w w3 := hb2.grown hgrow3 hb2.size (fun kk hk => (own0.lt kk hk).1); have hown4 : w3.ownsRow w.heap.size 26 5 v3 k X1 := (by simpa using hown3); obtain ⟨z0, z1, z2, z3, z4⟩ := KX.out w3 hgrow3))
                  go_ret2
                  exact SPost.of (RE.out _ _ (by rw [show zs.length - k = 0 by omega]; exact hown7)) hb7
              | false =>
                cases hb2 : (t.toList == xs.toList) with
                | true =>
                  have HE : Hid (at' = k) := Lib.hid (HERE.out k hk (fun h => HP.out k (Nat.le_refl _) h) (fun _ => by rw [show k - 1 = m by have := HM.out; omega, GP, T, hb1, hb2]; rfl))
                  clear T GP
                  go_wp2_with fail
                  go_quiet (fail)
                  rename Nat => q1
                  have HB4 := Lib.hid (bel_dA HB3.out q1)
                  have HX4 : Hid (StarAt ((w2.drewN n).drewN q1) w.heap.size 0 ⟨xs, xa, xb, xc, xd⟩) := Lib.hid ⟨HX2.out.c0, HX2.out.c1, HX2.out.c2, HX2.out.c3, HX2.out.c4⟩
                  have hwq : w.heap.size < ((w2.drewN n).drewN q1).heap.size := World.block_lt_of_cell? _ ⟨w.heap.size, 0, none⟩ HX4.out.c0
                  clear c0 c1 HB3 HB2 HX2 HX1 HB1 HERE HP V ON F
                  generalize (w2.drewN n).drewN q1 = wq at HB4 HX4 hwq ⊢
                  have own0 : (wq.alloc (Obj.cells #[] 26)).ownsRow w.heap.size 26 5 (.slice (some ⟨wq.heap.size, 0, none⟩) 0 0) 0 [] := World.ownsRow_made wq #[] 0 HB4.out.size (Nat.zero_le _) rfl
                  have hb2 : Below w.heap.size w (wq.alloc (Obj.cells #[] 26)) := HB4.out.alloc HB4.out.size _
                  have KX : Hid (∀ W', (wq.alloc (Obj.cells #[] 26)).grownBy W' (some wq.heap.size) → StarAt W' w.heap.size 0 ⟨xs, xa, xb, xc, xd⟩) := Lib.hid (fun W' hg => by
                    have hx := HX4.out.below ((Below.refl wq.heap.size wq).alloc (Nat.le_refl _) (Obj.cells #[] 26))
                    have hbk := hg.block w.heap.size (by simp; omega) (by simp; omega)
                    have e : ∀ i, W'.cell? ⟨w.heap.size, i, none⟩ = (wq.alloc (Obj.cells #[] 26)).cell? ⟨w.heap.size, i, none⟩ := fun i => World.cell?_of_block (a := ⟨w.heap.size, i, none⟩) hbk
                    exact ⟨(e _).trans hx.c0, (e _).trans hx.c1, (e _).trans hx.c2, (e _).trans hx.c3, (e _).trans hx.c4⟩)
                  have L1 : (flatS (zs.take k)).length = k * 5 := by rw [flatS_len, List.length_take]; omega
                  have L2 : (flatS (zs.drop k)).length = (zs.length - k) * 5 := by rw [flatS_len, List.length_drop]
                  have P1 := Lib.hid (flatS_one (zs.take k))
                  have P2 := Lib.hid (flatS_one (zs.drop k))
                  have PX : Hid (∀ u ∈ [Value.string xs, .int .i64 xa, .int .i64 xb, .int .i64 xc, .int .i64 xd], u.oneCell' = true) := Lib.hid (by
                    intro u hu
                    simp only [List.mem_cons, List.not_mem_nil, or_false] at hu
                    rcases hu with rfl | rfl | rfl | rfl | rfl <;> rfl)
                  have S1 : Hid (∀ W, Below w.heap.size w W → ∀ j u, (flatS (zs.take k))[j]? = some u → W.cell? ((⟨g, 0, none⟩ : Addr).add j) = some u) := Lib.hid (fun W hB => src_take H1.out k hB)
                  have S2 : Hid (∀ W, Below w.heap.size w W → ∀ j u, (flatS (zs.drop k))[j]? = some u → W.cell? ((⟨g, k * 5, none⟩ : Addr).add j) = some u) := Lib.hid (fun W hB => src_drop H1.out k hB)
                  have RE := Lib.hid (fun W v h => RES.out k W v HE.out hk h)
                  clear RES
                  generalize flatS (zs.take k) = X1 at L1 P1 S1 RE
                  generalize flatS (zs.drop k) = X2 at L2 P2 S2 RE
                  have k0 : (0 : Int) ≤ (k : Int) := by omega
                  have k1 : (k : Int) ≤ (zs.length : Int) := by omega
                  have hm1 : 0 + k ≤ maxLen := by unfold maxLen; omega
                  have hy1 : (0 + k) * 48 ≤ 140737488355328 := by omega
                  have hm2 : k + 1 ≤ maxLen := by unfold maxLen; omega
                  have hy2 : (k + 1) * 48 ≤ 140737488355328 := by omega
                  by_cases hlast : k < zs.length
                  · have l1 : (k : Int) < (zs.length : Int) := by omega
                    have hm3 : k + 1 + (zs.length - k) ≤ maxLen := by unfold maxLen; omega
                    have hy3 : (k + 1 + (zs.length - k)) * 48 ≤ 140737488355328 := by omega
                    go_wp2_with (first
                      | (at_builtin; refine wpList_append_own _ rfl _ _ 32 rfl w.heap.size 26 i0 (.agg #[.string ByteArray.empty, .int .i64 0, .int .i64 0, .int .i64 0, .int .i64 0]) 5 48 Try.underlying32 hi hz0 hz1 hz2 rfl (by decide) _ _ _ rfl hown5 ⟨g, k * 5, none⟩ (zs.length - k) (zs.length - k) X2 rfl L2 (S2.out _ hb5) P2.out hm3 hy3 hb5.size ?_; intro v7 w7 hown7 hgrow7 _; have hb7 : Below w.heap.size w w7 := hb5.grown hgrow7 hb5.size (fun kk hk => (hown5.lt kk hk).1))
                      | (at_builtin; refine wpList_append_own _ rfl _ _ 32 rfl w.heap.size 26 i0 (.agg #[.string ByteArray.empty, .int .i64 0, .int .i64 0, .int .i64 0, .int .i64 0]) 5 48 Try.underlying32 hi hz0 hz1 hz2 rfl (by decide) _ _ _ rfl (hown4.alloc _) ⟨w3.heap.size, 0, none⟩ 1 1 [.string xs, .int .i64 xa, .int .i64 xb, .int .i64 xc, .int .i64 xd] rfl rfl (new_cells w3 _ _) PX.out hm2 hy2 (Nat.le_trans hb3.size (by simp)) ?_; intro v5 w5 hown5 hgrow5 _; have hb5 : Below w.heap.size w w5 := (hb3.alloc hb3.size _).grown hgrow5 (Nat.le_trans hb3.size (by simp)) (fun kk hk => (hown4.lt kk hk).1))
                      | (at_builtin; refine wpList_append_own _ rfl _ _ 32 rfl w.heap.size 26 i0 (.agg #[.string ByteArray.empty, .int .i64 0, .int .i64 0, .int .i64 0, .int .i64 0]) 5 48 Try.underlying32 hi hz0 hz1 hz2 rfl (by decide) _ _ _ rfl own0 ⟨g, 0, none⟩ k _ X1 rfl L1 (S1.out _ hb2) P1.out hm1 hy1 hb2.size ?_; intro v3 w3 hown3 hgrow3 _; have hb3 : Below w.heap.size w w3 := hb2.grown hgrow3 hb2.size (fun kk hk => (own0.lt kk hk).1); have hown4 : w3.ownsRow w.heap.size 26 5 v3 k X1 := (by simpa using hown3); obtain ⟨z0, z1, z2, z3, z4⟩ := KX.out w3 hgrow3))
                    go_ret2
                    exact SPost.of (RE.out _ _ hown7) hb7
                  · have l1 : zs.length = k := by omega
                    have hX2 : X2 = [] := List.length_eq_zero_iff.1 (by rw [L2]; omega)
                    subst hX2
                    have hm3 : k + 1 + 0 ≤ maxLen := by unfold maxLen; omega
                    have hy3 : (k + 1 + 0) * 48 ≤ 140737488355328 := by omega
                    have P3 : ∀ u ∈ ([] : List Value), u.oneCell' = true := fun u hu => by cases hu
                    go_wp2_with (first
                      | (at_builtin; refine wpList_append_own _ rfl _ _ 32 rfl w.heap.size 26 i0 (.agg #[.string ByteArray.empty, .int .i64 0, .int .i64 0, .int .i64 0, .int .i64 0]) 5 48 Try.underlying32 hi hz0 hz1 hz2 rfl (by decide) _ _ _ rfl hown5 ⟨g, 0, none⟩ 0 0 [] rfl rfl (fun j u hj => by simp at hj) P3 hm3 hy3 hb5.size ?_; intro v7 w7 hown7 hgrow7 _; have hb7 : Below w.heap.size w w7 := hb5.grown hgrow7 hb5.size (fun kk hk => (hown5.lt kk hk).1))
                      | (at_builtin; refine wpList_append_own _ rfl _ _ 32 rfl w.heap.size 26 i0 (.agg #[.string ByteArray.empty, .int .i64 0, .int .i64 0, .int .i64 0, .int .i64 0]) 5 48 Try.underlying32 hi hz0 hz1 hz2 rfl (by decide) _ _ _ rfl (hown4.alloc _) ⟨w3.heap.size, 0, none⟩ 1 1 [.string xs, .int .i64 xa, .int .i64 xb, .int .i64 xc, .int .i64 xd] rfl rfl (new_cells w3 _ _) PX.out hm2 hy2 (Nat.le_trans hb3.size (by simp)) ?_; intro v5 w5 hown5 hgrow5 _; have hb5 : Below w.heap.size w w5 := (hb3.alloc hb3.size _).grown hgrow5 (Nat.le_trans hb3.size (by simp)) (fun kk hk => (hown4.lt kk hk).1))
                      | (at_builtin; refine wpList_append_own _ rfl _ _ 32 rfl w.heap.size 26 i0 (.agg #[.string ByteArray.empty, .int .i64 0, .int .i64 0, .int .i64 0, .int .i64 0]) 5 48 Try.underlying32 hi hz0 hz1 hz2 rfl (by decide) _ _ _ rfl own0 ⟨g, 0, none⟩ k _ X1 rfl L1 (S1.out _ hb2) P1.out hm1 hy1 hb2.size ?_; intro v3 w3 hown3 hgrow3 _; have hb3 : Below w.heap.size w w3 := hb2.grown hgrow3 hb2.size (fun kk hk => (own0.lt kk hk).1); have hown4 : w3.ownsRow w.heap.size 26 5 v3 k X1 := (by simpa using hown3); obtain ⟨z0, z1, z2, z3, z4⟩ := KX.out w3 hgrow3))
                    go_ret2
                    exact SPost.of (RE.out _ _ (by rw [show zs.length - k = 0 by omega]; exact hown7)) hb7
                | false =>
                  have NX : Hid (∀ j, m ≤ j → j < zs.length → gtP zs xs j = true) := Lib.hid (fun j h1 h2 => by
                    by_cases c : k ≤ j
                    · exact HP.out j c h2
                    · have : j = m := by omega
                      rw [this, GP, T, hb1, hb2]; rfl)
                  clear T GP
                  go_wp2_with fail
                  go_quiet (fail)
                  rename Nat => q1
                  go_wp2_with fail
                  go_roundg (m + 1)
                  case measure => have := HM.out; omega
                  case rel => exact ⟨m, n + q1, rfl, by omega, rfl, by first | rfl | rw [World.drewN_drewN], NX⟩
            · obtain rfl : k = 0 := by omega
              have HE : Hid (at' = 0) := Lib.hid (HERE.out 0 hk (fun h => HP.out 0 (Nat.le_refl _) h) (fun h => absurd h hk0))
              go_wp2_with fail
              go_quiet (fail)
              rename Nat => q1
              have HB4 := Lib.hid (bel_dA HB3.out q1)
              have HX4 : Hid (StarAt ((w2.drewN n).drewN q1) w.heap.size 0 ⟨xs, xa, xb, xc, xd⟩) := Lib.hid ⟨HX2.out.c0, HX2.out.c1, HX2.out.c2, HX2.out.c3, HX2.out.c4⟩
              have hwq : w.heap.size < ((w2.drewN n).drewN q1).heap.size := World.block_lt_of_cell? _ ⟨w.heap.size, 0, none⟩ HX4.out.c0
              clear c0 c1 HB3 HB2 HX2 HX1 HB1 HERE HP V ON F
              generalize (w2.drewN n).drewN q1 = wq at HB4 HX4 hwq ⊢
              have own0 : (wq.alloc (Obj.cells #[] 26)).ownsRow w.heap.size 26 5 (.slice (some ⟨wq.heap.size, 0, none⟩) 0 0) 0 [] := World.ownsRow_made wq #[] 0 HB4.out.size (Nat.zero_le _) rfl
              have hb2 : Below w.heap.size w (wq.alloc (Obj.cells #[] 26)) := HB4.out.alloc HB4.out.size _
              have KX : Hid (∀ W', (wq.alloc (Obj.cells #[] 26)).grownBy W' (some wq.heap.size) → StarAt W' w.heap.size 0 ⟨xs, xa, xb, xc, xd⟩) := Lib.hid (fun W' hg => by
                have hx := HX4.out.below ((Below.refl wq.heap.size wq).alloc (Nat.le_refl _) (Obj.cells #[] 26))
                have hbk := hg.block w.heap.size (by simp; omega) (by simp; omega)
                have e : ∀ i, W'.cell? ⟨w.heap.size, i, none⟩ = (wq.alloc (Obj.cells #[] 26)).cell? ⟨w.heap.size, i, none⟩ := fun i => World.cell?_of_block (a := ⟨w.heap.size, i, none⟩) hbk
                exact ⟨(e _).trans hx.c0, (e _).trans hx.c1, (e _).trans hx.c2, (e _).trans hx.c3, (e _).trans hx.c4⟩)
              have L2 : (flatS zs).length = zs.length * 5 := flatS_len zs
              have P2 := Lib.hid (flatS_one zs)
              have P3 : Hid (∀ u ∈ ([] : List Value), u.oneCell' = true) := Lib.hid (fun u hu => by cases hu)
              have PX : Hid (∀ u ∈ [Value.string xs, .int .i64 xa, .int .i64 xb, .int .i64 xc, .int .i64 xd], u.oneCell' = true) := Lib.hid (by
                intro u hu
                simp only [List.mem_cons, List.not_mem_nil, or_false] at hu
                rcases hu with rfl | rfl | rfl | rfl | rfl <;> rfl)
              have S2 : Hid (∀ W, Below w.heap.size w W → ∀ j u, (flatS zs)[j]? = some u → W.cell? ((⟨g, 0, none⟩ : Addr).add j) = some u) := Lib.hid (fun W hB j u hj => (H1.out.below hB).src 0 j u (by rw [List.drop_zero]; exact hj))
              have RE : Hid (∀ W v, W.ownsRow w.heap.size 26 5 v (0 + 1 + zs.length) ([] ++ [.string xs, .int .i64 xa, .int .i64 xb, .int .i64 xc, .int .i64 xd] ++ flatS zs) → SOwn W w.heap.size v R) := Lib.hid (fun W v h => RES.out 0 W v HE.out (Nat.zero_le _) h)
              clear RES
              generalize flatS zs = X2 at L2 P2 S2 RE
              have hm1 : 0 + 0 ≤ maxLen := by unfold maxLen; omega
              have hy1 : (0 + 0) * 48 ≤ 140737488355328 := by omega
              have hm2 : 0 + 1 ≤ maxLen := by unfold maxLen; omega
              have hy2 : (0 + 1) * 48 ≤ 140737488355328 := by omega
              have hm3 : 0 + 1 + zs.length ≤ maxLen := by unfold maxLen; omega
              have hy3 : (0 + 1 + zs.length) * 48 ≤ 140737488355328 := by omega
              go_wp2_with (first
                | (at_builtin; refine wpList_append_own _ rfl _ _ 32 rfl w.heap.size 26 i0 (.agg #[.string ByteArray.empty, .int .i64 0, .int .i64 0, .int .i64 0, .int .i64 0]) 5 48 Try.underlying32 hi hz0 hz1 hz2 rfl (by decide) _ _ _ rfl hown5 ⟨g, 0, none⟩ zs.length _ X2 rfl L2 (S2.out _ hb5) P2.out hm3 hy3 hb5.size ?_; intro v7 w7 hown7 hgrow7 _; have hb7 : Below w.heap.size w w7 := hb5.grown hgrow7 hb5.size (fun kk hk => (hown5.lt kk hk).1))
                | (at_builtin; refine wpList_append_own _ rfl _ _ 32 rfl w.heap.size 26 i0 (.agg #[.string ByteArray.empty, .int .i64 0, .int .i64 0, .int .i64 0, .int .i64 0]) 5 48 Try.underlying32 hi hz0 hz1 hz2 rfl (by decide) _ _ _ rfl (hown4.alloc _) ⟨w3.heap.size, 0, none⟩ 1 1 [.string xs, .int .i64 xa, .int .i64 xb, .int .i64 xc, .int .i64 xd] rfl rfl (new_cells w3 _ _) PX.out hm2 hy2 (Nat.le_trans hb3.size (by simp)) ?_; intro v5 w5 hown5 hgrow5 _; have hb5 : Below w.heap.size w w5 := (hb3.alloc hb3.size _).grown hgrow5 (Nat.le_trans hb3.size (by simp)) (fun kk hk => (hown4.lt kk hk).1))
                | (at_builtin; refine wpList_append_own _ rfl _ _ 32 rfl w.heap.size 26 i0 (.agg #[.string ByteArray.empty, .int .i64 0, .int .i64 0, .int .i64 0, .int .i64 0]) 5 48 Try.underlying32 hi hz0 hz1 hz2 rfl (by decide) _ _ _ rfl own0 ⟨g, 0, none⟩ 0 _ [] rfl rfl (fun j u hj => by simp at hj) P3.out hm1 hy1 hb2.size ?_; intro v3 w3 hown3 hgrow3 _; have hb3 : Below w.heap.size w w3 := hb2.grown hgrow3 hb2.size (fun kk hk => (own0.lt kk hk).1); have hown4 : w3.ownsRow w.heap.size 26 5 v3 0 [] := hown3; obtain ⟨z0, z1, z2, z3, z4⟩ := KX.out w3 hgrow3))
              go_ret2
              exact SPost.of (RE.out _ _ hown7) hb7
end Go.Proofs.Ytfjhlapcopjfiaa
