/-
  FigureParts (package spec).
-/
import Derived.Test.YtfjhlapcopjfiaaPart1
import Derived.Test.YtfjhlapcopjfiaaKeep
import Derived.Deep.OwnRows
namespace Go.Proofs.Ytfjhlapcopjfiaa
open Go.RowKit
set_option linter.unusedVariables false

def rowL (n : Nat) (f : Nat → Int) : List Int := (List.range n).map f
theorem rowL_len (n : Nat) (f : Nat → Int) : (rowL n f).length = n := by simp [rowL]
theorem rowL_next (n : Nat) (f : Nat → Int) : rowL (n + 1) f = rowL n f ++ [f n] := by simp [rowL, List.range_succ]
theorem rowL_get (n : Nat) (f : Nat → Int) (k : Nat) (h : k < n) : (rowL n f)[k]? = some (f k) := by simp [rowL, h]
theorem rowL_congr {n : Nat} {f f' : Nat → Int} (h : ∀ x, x < n → f x = f' x) : rowL n f = rowL n f' := List.map_congr_left fun x hx => h x (List.mem_range.1 hx)
theorem rowL_set (n : Nat) (f : Nat → Int) (k : Nat) (v : Int) : (rowL n f).set k v = rowL n (fun x => if x = k then v else f x) := by
  apply List.ext_getElem?
  intro i
  rw [List.getElem?_set, rowL_len]
  by_cases h : i < n
  · rw [rowL_get _ _ _ h, rowL_get _ _ _ h]
    by_cases c : k = i
    · subst c
      rw [if_pos rfl, if_pos h, if_pos rfl]
    · rw [if_neg c, if_neg (Ne.symm c)]
  · rw [List.getElem?_eq_none (by rw [rowL_len]; omega), List.getElem?_eq_none (by rw [rowL_len]; omega)]
    by_cases c : k = i
    · rw [if_pos c, if_neg (by omega)]
    · rw [if_neg c]
theorem own_at {w : World} {B g n cap : Nat} {f : Nat → Int} (h : w.ownsRow B 2 1 (.slice (some ⟨g, 0, none⟩) n cap) n ((rowL n f).map (Value.int .i64))) (k : Nat) (hk : k < n) : w.cell? ⟨g, k, none⟩ = some (.int .i64 (f k)) := by
  rw [h.cellAt k (by omega), List.getElem?_map, rowL_get _ _ _ hk]
  rfl
theorem own_val {w : World} {B n : Nat} {e : TypeId} {v : Value} {xs : List Value} (h : w.ownsRow B e 1 v n xs) : ∃ a cap, v = .slice a n cap ∧ (n = 0 ∨ ∃ g, a = some ⟨g, 0, none⟩) := by
  rcases h.2 with ⟨hv, h0⟩ | ⟨g, cap, cur, hv, _⟩
  · exact ⟨none, 0, by rw [hv, h0], Or.inl h0⟩
  · exact ⟨_, cap, hv, Or.inr ⟨g, rfl⟩⟩
theorem foldl_putL_len (zs : List Int) : ∀ xs : List Int, (zs.foldl putL xs).length ≤ xs.length + zs.length := by
  induction zs with
  | nil => intro xs; simp
  | cons z zs ih =>
    intro xs
    have h1 := ih (putL xs z)
    have h2 := putL_len xs z
    rw [List.foldl_cons, List.length_cons]
    omega
/-- The labels so far, in order and once each. -/
def kindsL (ls : List (List Int)) (i : Nat) : List Int := (((endsL ls).take i).map (lab ls ls.length)).foldl putL []
theorem kindsL_len (ls : List (List Int)) (i : Nat) : (kindsL ls i).length ≤ i := by
  have h := foldl_putL_len (((endsL ls).take i).map (lab ls ls.length)) []
  rw [List.length_map, List.length_take] at h
  unfold kindsL
  simp only [List.length_nil] at h
  omega
theorem kindsL_next (ls : List (List Int)) (i : Nat) (h : i < (endsL ls).length) : kindsL ls (i + 1) = putL (kindsL ls i) (lab ls ls.length (endsL ls)[i]) := by
  unfold kindsL
  rw [List.take_add_one, List.getElem?_eq_getElem h, Option.toList_some, List.map_append, List.foldl_append]
  rfl
theorem kindsL_all (ls : List (List Int)) : (kindsL ls (endsL ls).length).length = partN ls := by
  unfold kindsL partN
  rw [List.take_length]
/-- While the labels b turn into a: the first k are done. -/
def midF (lb : Int → Int) (a b : Int) (k : Nat) (x : Nat) : Int := if x < k ∧ lb x = b then a else lb x

set_option maxRecDepth 100000 in
set_option maxHeartbeats 8000000 in
theorem specParts_any (s : ByteArray) (g cap : Nat) (ls : List (List Int)) (bs : Nat → Nat) (g' cap' : Nat) (zs : List StarV) (w : World) (hb : ls.length ≤ 1048577) (hls : ∀ j, (h : j < ls.length) → ls[j].length ≤ 1048577) (hfit : ∀ j, (h : j < ls.length) → ∀ x ∈ ls[j], fits x) (hr : LRow w g ls bs)
    (hb' : zs.length ≤ 1048577) (h1 : Row w g' zs) :
    Calls Try.prog 46 #[.agg #[.string s, .slice (some ⟨g, 0, none⟩) ls.length cap], .slice (some ⟨g', 0, none⟩) zs.length cap'] w fun e w' => e = .returned (.tuple #[.int .i64 (partV zs s ls).1, .int .i64 (partV zs s ls).2]) ∧ Below w.heap.size w w' := by
  have V := Lib.hid (fun (W : World) (hB : Below w.heap.size w W) p hp0 hp1 => l08Ok_any s p g cap ls bs g' cap' zs W hp0 hp1 hb hls hfit (hr.below hB) hb' (h1.below hB))
  have HL := Lib.hid hr
  unfold partV
  clear hr hls h1 hfit
  cases hv : figV zs s ls with
  | false =>
    rw [if_neg (by simp)]
    rw [hv] at V
    clear hv
    go_enter Try.func46, Try.ntmps46
    go_wp2_with fail
    refine (V.out _ (by repeat (first | exact Below.refl _ _ | refine Below.setCell ?_ (by first | (simp; done) | omega | (simp; omega)) _ | refine Below.alloc ?_ (by first | (simp; done) | omega | (simp; omega)) _ | refine bel_drew ?_)) w.heap.size (by simp) (by simp)).mono ?_
    rintro e w1 ⟨rfl, hb1⟩
    have HB1 : Hid (Below w.heap.size w w1) := Lib.hid (by
      refine Below.trans ?_ (hb1.mono ?_)
      · repeat (first | exact Below.refl _ _ | refine Below.setCell ?_ (by first | (simp; done) | omega | (simp; omega)) _ | refine Below.alloc ?_ (by first | (simp; done) | omega | (simp; omega)) _ | refine bel_drew ?_)
      · simp)
    clear hb1
    go_wp2_with fail
    go_ret2
    exact ⟨rfl, HB1.out⟩
  | true =>
    rw [if_pos rfl]
    rw [hv] at V
    obtain ⟨ho, hl16, hln⟩ := figV_okP hv
    have LN := Lib.hid hln
    have hl2 : ∀ j, (hj : j < ls.length) → ∃ a c : Int, ls[j] = [a, c] := fun j hj => by
      obtain ⟨a, c, h, _⟩ := hln j hj
      exact ⟨_, _, h⟩
    have EN := Lib.hid (fun (W : World) (hB : Below w.heap.size w W) p hp1 => l08Stars_any p g cap ls bs W hl16 hl2 hp1 (HL.out.below hB))
    have EM : Hid (∀ i, (h : i < (endsL ls).length) → ∃ e : Nat, (endsL ls)[i] = (e : Int) ∧ e < zs.length) := Lib.hid (fun i h => by
      have hm := ((endsL_spec ls).2 _).1 (List.getElem_mem h)
      obtain ⟨l, hl, hx⟩ := List.mem_flatten.1 hm
      obtain ⟨j, hj, rfl⟩ := List.getElem_of_mem hl
      obtain ⟨a, c, hac, la, lc, _⟩ := hln j hj
      rw [hac] at hx
      simp only [List.mem_cons, List.not_mem_nil, or_false] at hx
      rcases hx with hx | hx
      · exact ⟨a, hx, la⟩
      · exact ⟨c, hx, lc⟩)
    have hE32 : (endsL ls).length ≤ 32 := by
      have h1 := endsUp_len ls hl2 ls.length (Nat.le_refl _)
      unfold endsUp at h1
      rw [List.take_length] at h1
      unfold endsL
      omega
    have KN := Lib.hid (kindsL_next ls)
    have KA := Lib.hid (kindsL_all ls)
    have KE := Lib.hid (kindsL_len ls)
    have K0 : Hid (kindsL ls 0 = []) := Lib.hid rfl
    have hz24 : zs.length ≤ 24 := by
      unfold okL at ho
      simp only [Bool.and_eq_true, decide_eq_true_eq] at ho
      exact ho.2
    clear hv hln hl2 ho
    generalize endsL ls = E at *
    generalize kindsL ls = S at *
    generalize partN ls = pn at *
    obtain ⟨i0, hi, hzz⟩ := Option.map_eq_some_iff.1 info_n64
    simp only [Prod.mk.injEq] at hzz
    obtain ⟨hz0, hz1, hz2⟩ := hzz
    have HI0 := Lib.hid hi
    have HZ0 := Lib.hid hz0
    have HZ1 := Lib.hid hz1
    have HZ2 := Lib.hid hz2
    clear hi hz0 hz1 hz2
    go_enter Try.func46, Try.ntmps46
    go_wp2_with fail
    refine (V.out _ (by repeat (first | exact Below.refl _ _ | refine Below.setCell ?_ (by first | (simp; done) | omega | (simp; omega)) _ | refine Below.alloc ?_ (by first | (simp; done) | omega | (simp; omega)) _ | refine bel_drew ?_)) w.heap.size (by simp) (by simp)).mono ?_
    rintro e w1 ⟨rfl, hb1⟩
    have HB1 : Hid (Below w.heap.size w w1) := Lib.hid (by
      refine Below.trans ?_ (hb1.mono ?_)
      · repeat (first | exact Below.refl _ _ | refine Below.setCell ?_ (by first | (simp; done) | omega | (simp; omega)) _ | refine Below.alloc ?_ (by first | (simp; done) | omega | (simp; omega)) _ | refine bel_drew ?_)
      · simp)
    have q1 : w1.cell? ⟨w.heap.size, 1, none⟩ = some (.slice (some ⟨g, 0, none⟩) ls.length cap) := (hb1.cell (p := ⟨w.heap.size, 1, none⟩) (by simp)).trans (by simp)
    have Q1 : Hid (∀ W, Below w1.heap.size w1 W → W.cell? ⟨w.heap.size, 1, none⟩ = some (.slice (some ⟨g, 0, none⟩) ls.length cap)) := Lib.hid (fun W h => by
      obtain ⟨cc, _⟩ := bcell h
      exact (cc _ _ (World.block_lt_of_cell? _ _ q1)).trans q1)
    have asz : w.heap.size ≤ w1.heap.size := HB1.out.size
    clear hb1 V q1
    have ST : Hid ((w1.alloc (.cells #[] 2)).ownsRow w1.heap.size 2 1 (.slice (some ⟨w1.heap.size, 0, none⟩) 0 0) 0 ((rowL 0 (fun x => (x : Int))).map (Value.int .i64))) := Lib.hid (World.ownsRow_lit (base := w1.heap.size) (e := 2) (size := 1) w1 #[] 0 (Nat.le_refl _) (by decide) rfl)
    have SB : Hid (Below w1.heap.size w1 (w1.alloc (.cells #[] 2))) := Lib.hid ((Below.refl _ w1).alloc (Nat.le_refl _) _)
    go_wp2_with fail
    go_loopg [6, 7] (zs.length + 1) (fun kx s6 s7 wr => ∃ j : Nat, s7 = .int .i64 (j : Int) ∧ j ≤ zs.length ∧ kx = zs.length + 1 - j ∧ Hid (wr.ownsRow w1.heap.size 2 1 s6 j ((rowL j (fun x => (x : Int))).map (Value.int .i64))) ∧ Hid (Below w1.heap.size w1 wr))
    case atStart => exact ⟨0, rfl, Nat.zero_le _, rfl, ST, SB⟩
    case round =>
      clear ST SB
      obtain ⟨j, rfl, hj, rfl, HO, HB⟩ := hrel
      by_cases hlt : j < zs.length
      · have j1 : (j : Int) < (zs.length : Int) := by omega
        have hown := HO.out
        have hi := HI0.out
        have hz0 := HZ0.out
        have hz1 := HZ1.out
        have hz2 := HZ2.out
        go_wp2_with (at_builtin; refine wpList_append_own _ rfl _ _ 59 rfl w1.heap.size 2 i0 (.int .i64 0) 1 8 Try.underlying59 hi hz0 hz1 hz2 rfl (by decide) _ _ _ rfl (hown.alloc _) ⟨wr.heap.size, 0, none⟩ 1 1 [.int .i64 (j : Int)] rfl rfl ?c1 ?c2 ?c3 ?c4 ?c5 ?_)
        case c1 => exact one_cellE _ _ _
        case c2 => exact one_plainE _
        case c3 => unfold maxLen; omega
        case c4 => omega
        case c5 => have hs4 := HB.out.size; simp; omega
        intro v' w5 hown' hgrow _
        obtain ⟨hb2, hs2⟩ := own_belowE hown HB.out HB.out.size hgrow
        have ho : w5.ownsRow w1.heap.size 2 1 v' (j + 1) ((rowL (j + 1) (fun x => (x : Int))).map (Value.int .i64)) := by
          rw [rowL_next, List.map_append]
          exact hown'
        have HO2 := Lib.hid ho
        have HB5 := Lib.hid hb2
        clear hown hown' hgrow ho hb2 hs2 hi hz0 hz1 hz2
        go_wp2_with fail
        go_roundg (zs.length + 1 - (j + 1))
        case measure => omega
        case rel => exact ⟨j + 1, by go_num, by omega, by omega, HO2, HB5⟩
      · obtain rfl : j = zs.length := by omega
        obtain ⟨aP, capP, hv6, hP⟩ := own_val HO.out
        subst hv6
        have HO0 : Hid (wr.ownsRow w1.heap.size 2 1 (.slice aP zs.length capP) zs.length ((rowL zs.length (fun x => lab ls 0 (x : Int))).map (Value.int .i64))) := Lib.hid HO.out
        clear HO
        have qq := Q1.out _ HB.out
        go_wp2_with fail
        clear qq
        go_loopg [8, 9, 10, 11] (ls.length + 1) (fun kx s8 s9 s10 s11 wr => ∃ j : Nat, s8 = .int .i64 (j : Int) ∧ j ≤ ls.length ∧ kx = ls.length + 1 - j ∧ Hid (wr.ownsRow w1.heap.size 2 1 (.slice aP zs.length capP) zs.length ((rowL zs.length (fun x => lab ls j (x : Int))).map (Value.int .i64))) ∧ Hid (Below w1.heap.size w1 wr))
        case atStart => exact ⟨0, rfl, Nat.zero_le _, rfl, HO0, HB⟩
        case round =>
          clear HO0 HB
          obtain ⟨j, rfl, hj, rfl, HO, HB⟩ := hrel
          have qq := Q1.out _ HB.out
          by_cases hlt2 : j < ls.length
          · obtain ⟨a, c, hac, la', lc', _⟩ := LN.out j hlt2
            have HBw := Lib.hid (HB1.out.trans (HB.out.mono asz))
            obtain ⟨c0, hx⟩ := (HL.out.below HBw.out).at j hlt2
            have LX := Lib.hid (lab_next ls j hlt2 _ _ hac)
            rw [hac] at c0 hx
            have x0 := hx.at 0 (by simp)
            have x1 := hx.at 1 (by simp)
            simp only [List.length_cons, List.length_nil, List.getElem_cons_zero, List.getElem_cons_succ, Nat.zero_add, Nat.reduceAdd] at c0 x0 x1
            rcases hP with h0 | ⟨gp, rfl⟩
            · omega
            have pa := own_at HO.out a la'
            have pc := own_at HO.out c lc'
            have hgp := ((HO.out).lt gp rfl).1
            obtain ⟨A, hA⟩ : ∃ A, A = lab ls j (a : Int) := ⟨_, rfl⟩
            obtain ⟨Bq, hBq⟩ : ∃ B, B = lab ls j (c : Int) := ⟨_, rfl⟩
            rw [← hA] at pa LX
            rw [← hBq] at pc LX
            have HM : Hid (wr.ownsRow w1.heap.size 2 1 (.slice (some ⟨gp, 0, none⟩) zs.length capP) zs.length ((rowL zs.length (midF (lab ls j) A Bq 0)).map (Value.int .i64))) := Lib.hid (by
              rw [rowL_congr (f' := fun x => lab ls j (x : Int)) (fun x _ => by unfold midF; rw [if_neg (by omega)])]
              exact HO.out)
            have j0 : (0 : Int) ≤ (j : Int) := by omega
            have j1 : (j : Int) < (ls.length : Int) := by omega
            have a0 : (0 : Int) ≤ (a : Int) := by omega
            have a1 : (a : Int) < (zs.length : Int) := by omega
            have e0 : (0 : Int) ≤ (c : Int) := by omega
            have e1 : (c : Int) < (zs.length : Int) := by omega
            clear hx hac hA hBq HO
            go_wp2_with fail
            clear qq c0 x0 x1 pa pc
            go_loopg [11] (zs.length + 1) (fun kx s11 wr => ∃ k : Nat, s11 = .int .i64 (k : Int) ∧ k ≤ zs.length ∧ kx = zs.length + 1 - k ∧ Hid (wr.ownsRow w1.heap.size 2 1 (.slice (some ⟨gp, 0, none⟩) zs.length capP) zs.length ((rowL zs.length (midF (lab ls j) A Bq k)).map (Value.int .i64))) ∧ Hid (Below w1.heap.size w1 wr))
            case atStart => exact ⟨0, rfl, Nat.zero_le _, rfl, HM, HB⟩
            case round =>
              clear HM HB HBw
              obtain ⟨k, rfl, hk, rfl, HM, HB⟩ := hrel
              by_cases hlt3 : k < zs.length
              · have ck := own_at HM.out k hlt3
                have fk := HM.out.frozenAt k
                have em : midF (lab ls j) A Bq k k = lab ls j (k : Int) := by unfold midF; rw [if_neg (by omega)]
                rw [em] at ck
                have k0 : (0 : Int) ≤ (k : Int) := by omega
                have k1 : (k : Int) < (zs.length : Int) := by omega
                by_cases heq : lab ls j (k : Int) = Bq
                · have hst := (HM.out.stored k (.int .i64 A)).1
                  rw [← List.map_set, rowL_set, rowL_congr (f' := midF (lab ls j) A Bq (k + 1)) (fun x _ => by
                    unfold midF
                    by_cases c : x = k
                    · subst c
                      rw [if_pos rfl, if_pos ⟨Nat.lt_succ_self _, heq⟩]
                    · rw [if_neg c]
                      by_cases d : x < k ∧ lab ls j (x : Int) = Bq
                      · rw [if_pos d, if_pos ⟨by omega, d.2⟩]
                      · rw [if_neg d, if_neg (fun h => d ⟨by omega, h.2⟩)])] at hst
                  have HM2 := Lib.hid hst
                  have HB2 := Lib.hid (HB.out.setCell (p := ⟨gp, k, none⟩) hgp (.int .i64 A))
                  have hbq : (lab ls j (k : Int) == Bq) = true := by simpa using heq
                  clear hst em
                  generalize lab ls j (k : Int) = v at *
                  go_wp2_with fail
                  go_roundg (zs.length + 1 - (k + 1))
                  case measure => omega
                  case rel => exact ⟨k + 1, by go_num, by omega, by omega, HM2, HB2⟩
                · have HM2 : Hid (wr.ownsRow w1.heap.size 2 1 (.slice (some ⟨gp, 0, none⟩) zs.length capP) zs.length ((rowL zs.length (midF (lab ls j) A Bq (k + 1))).map (Value.int .i64))) := Lib.hid (by
                    rw [rowL_congr (f' := midF (lab ls j) A Bq k) (fun x _ => by
                      unfold midF
                      by_cases d : x < k ∧ lab ls j (x : Int) = Bq
                      · rw [if_pos d, if_pos ⟨by omega, d.2⟩]
                      · rw [if_neg d, if_neg (fun h => d ⟨by
                          rcases Nat.lt_or_ge x k with c | c
                          · exact c
                          · exfalso
                            have : x = k := by omega
                            subst this
                            exact heq h.2, h.2⟩)])]
                    exact HM.out)
                  have hbq : (lab ls j (k : Int) == Bq) = false := by simpa using heq
                  clear em
                  generalize lab ls j (k : Int) = v at *
                  go_wp2_with fail
                  go_roundg (zs.length + 1 - (k + 1))
                  case measure => omega
                  case rel => exact ⟨k + 1, by go_num, by omega, by omega, HM2, HB⟩
              · obtain rfl : k = zs.length := by omega
                have HN : Hid (wr.ownsRow w1.heap.size 2 1 (.slice (some ⟨gp, 0, none⟩) zs.length capP) zs.length ((rowL zs.length (fun x => lab ls (j + 1) (x : Int))).map (Value.int .i64))) := Lib.hid (by
                  rw [rowL_congr (f' := midF (lab ls j) A Bq zs.length) (fun x hx => by
                    rw [LX.out]
                    unfold midF
                    by_cases d : lab ls j (x : Int) = Bq
                    · rw [if_pos d, if_pos ⟨hx, d⟩]
                    · rw [if_neg d, if_neg (fun h => d h.2)])]
                  exact HM.out)
                clear HM LX
                go_wp2_with fail
                go_roundg (ls.length + 1 - (j + 1))
                case measure => omega
                case rel => exact ⟨j + 1, by go_num, by omega, by omega, HN, HB⟩
          · obtain rfl : j = ls.length := by omega
            have HBw := Lib.hid (HB1.out.trans (HB.out.mono asz))
            have HKs : Hid ((wr.alloc (.cells #[] 2)).ownsRow w1.heap.size 2 1 (.slice (some ⟨wr.heap.size, 0, none⟩) 0 0) 0 []) := Lib.hid (Go.Joins.ownsRow_le (World.ownsRow_lit (base := wr.heap.size) (e := 2) (size := 1) wr #[] 0 (Nat.le_refl _) (by decide) rfl) HB.out.size)
            have HBa := Lib.hid (HB.out.alloc HB.out.size (.cells #[] 2))
            have HPa := Lib.hid (HO.out.alloc (.cells #[] 2))
            have HBwa := Lib.hid (HB1.out.trans (HBa.out.mono asz))
            have qa := Q1.out _ HBa.out
            clear HO
            go_wp2_with fail
            refine (EN.out _ HBwa.out w.heap.size qa).mono ?_
            rintro e w5 ⟨v5, rfl, hown5, hb5⟩
            obtain ⟨aE, capE, rfl, hA⟩ := own_slice hown5
            have HB5 := Lib.hid (HBa.out.trans (hb5.mono HBa.out.size))
            have HK5 : Hid (w5.ownsRow w1.heap.size 2 1 (.slice (some ⟨wr.heap.size, 0, none⟩) 0 0) (S 0).length ((S 0).map (Value.int .i64))) := Lib.hid (by
              rw [K0.out]
              exact ownsRow_belowE HKs.out hb5)
            have HP5 := Lib.hid (ownsRow_belowE HPa.out hb5)
            have HA := Lib.hid hA
            clear hb5 hown5 hA qa qq HKs HPa HBa HBwa
            go_wp2_with fail
            go_loopg [12, 14] (E.length + 1) (fun kx s12 s14 wr => ∃ i : Nat, s14 = .int .i64 (i : Int) ∧ i ≤ E.length ∧ kx = E.length + 1 - i ∧ Hid (wr.ownsRow w1.heap.size 2 1 s12 (S i).length ((S i).map (Value.int .i64))) ∧ Hid (Below w5.heap.size w5 wr))
            case atStart => exact ⟨0, rfl, Nat.zero_le _, rfl, HK5, Lib.hid (Below.refl _ _)⟩
            case round =>
              clear HK5
              obtain ⟨i, rfl, hi, rfl, HO, HX⟩ := hrel
              have el := KE.out i
              by_cases hlt4 : i < E.length
              · have SN := Lib.hid (KN.out i hlt4)
                obtain ⟨ee, hee, hez⟩ := EM.out i hlt4
                rw [hee] at SN
                rcases HA.out with h0 | ⟨ge, hae, hgl, hcc⟩
                · omega
                subst hae
                rcases hP with h0 | ⟨gp, hgp⟩
                · omega
                subst hgp
                obtain ⟨cc, _⟩ := bcell HX.out
                have ci : wr.cell? ⟨ge, i, none⟩ = some (.int .i64 (ee : Int)) := by
                  have h := hcc i hlt4
                  rw [hee] at h
                  exact (cc _ _ hgl).trans h
                have pe := own_at (ownsRow_belowE HP5.out HX.out) ee hez
                obtain ⟨sa, sc, rfl, hsl⟩ := own_slice HO.out
                obtain ⟨v, hv⟩ : ∃ v, v = lab ls ls.length (ee : Int) := ⟨_, rfl⟩
                rw [← hv] at pe SN
                have P1 := Lib.hid (l00Put_any sa sc (S i) v wr (by omega) hsl)
                have i0' : (0 : Int) ≤ (i : Int) := by omega
                have i1 : (i : Int) < (E.length : Int) := by omega
                have p0 : (0 : Int) ≤ (ee : Int) := by omega
                have p1 : (ee : Int) < (zs.length : Int) := by omega
                clear hsl hcc hee hv cc
                generalize (S i).length = n at *
                go_wp2_with fail
                refine P1.out.mono ?_
                rintro e w6 ⟨v6, rfl, hown6, hb6⟩
                have HX6 := Lib.hid (HX.out.trans (hb6.mono HX.out.size))
                have HO6 : Hid (w6.ownsRow w1.heap.size 2 1 v6 (S (i + 1)).length ((S (i + 1)).map (Value.int .i64))) := Lib.hid (by
                  rw [SN.out]
                  exact Go.Joins.ownsRow_le hown6 (Nat.le_trans HB5.out.size HX.out.size))
                clear hb6 hown6 P1 ci pe
                go_wp2_with fail
                go_roundg (E.length + 1 - (i + 1))
                case measure => omega
                case rel => exact ⟨i + 1, by go_num, by omega, by omega, HO6, HX6⟩
              · obtain rfl : i = E.length := by omega
                obtain ⟨sa, sc, rfl, hsl⟩ := own_slice HO.out
                have ka := KA.out
                have HF := Lib.hid (HB1.out.trans ((HB5.out.trans (HX.out.mono HB5.out.size)).mono asz))
                clear hsl
                rw [ka]
                go_wp2_with fail
                go_ret2
                exact ⟨rfl, HF.out⟩
end Go.Proofs.Ytfjhlapcopjfiaa
