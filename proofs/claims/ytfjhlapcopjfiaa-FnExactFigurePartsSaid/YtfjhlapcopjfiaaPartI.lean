/-
  FigureParts (package impl).
-/
import Derived.Test.YtfjhlapcopjfiaaPart2
import Derived.Test.YtfjhlapcopjfiaaKeep
import Derived.Deep.AppendLies
import Derived.Deep.RegionHeld3
namespace Go.Proofs.Ytfjhlapcopjfiaa
open Go.RowKit
set_option linter.unusedVariables false

theorem pw_new (w w1 : World) (hb : Below w.heap.size w w1) (C : Int → List Int) (G cap : Int → Nat) : PW w ((w1.alloc (.map #[] 0)).alloc (.map #[] 0)) w.heap.size w1.heap.size (w1.heap.size + 1) [] (fun x => x) [] C G cap := by
  have h1 : IM (w1.alloc (.map #[] 0)) w1.heap.size [] (fun _ => undef) := im_new w1
  have h2 : IM ((w1.alloc (.map #[] 0)).alloc (.map #[] 0)) (w1.heap.size + 1) [] (fun _ => undef) := by
    have := im_new (w1.alloc (.map #[] 0))
    simpa using this
  refine ⟨(hb.alloc hb.size _).alloc (by have := hb.size; simp; omega) _, by have := hb.size; simp; omega, by omega, ⟨hb.size, Nat.le_trans hb.size (Nat.le_succ _)⟩, ?_, ?_, fun k hk => (by cases hk), fun k k' hk => (by cases hk)⟩
  · exact (h1.below ((Below.refl _ _).alloc (Nat.le_refl _) _)).congr (fun k hk => by cases hk)
  · exact h2.congr (fun k hk => by cases hk)
theorem keepLk {w0 wr : World} {B b1 b2 : Nat} {E K : List Int} {lb : Int → Int} {C : Int → List Int} {G cap : Int → Nat} (h : PW w0 wr B b1 b2 E lb K C G cap) {bj : Nat} {a c : Int} (hx : wr.cell? ⟨bj, 0, none⟩ = some (.int .i64 a) ∧ wr.cell? ⟨bj, 1, none⟩ = some (.int .i64 c)) (ha : a ∈ E) (hc : c ∈ E) {W : World} (hb : Below wr.heap.size wr W) :
    W.cell? ⟨bj, 0, none⟩ = some (.int .i64 a) ∧ W.cell? ⟨bj, 1, none⟩ = some (.int .i64 c) ∧ (Instr.lookup 106 (.map (some b1)) (.int .i64 a) false).run Try.prog W = .ok (.int .i64 (lb a)) W ∧ (Instr.lookup 106 (.map (some b1)) (.int .i64 c) false).run Try.prog W = .ok (.int .i64 (lb c)) W ∧ Below wr.heap.size wr W := by
  obtain ⟨h0, h1⟩ := hx
  have l0 := World.block_lt_of_cell? _ _ h0
  obtain ⟨cc, _⟩ := bcell hb
  have p := h.p1.below hb
  exact ⟨(cc _ _ l0).trans h0, (cc _ _ l0).trans h1, p.get Try.underlying106 Try.underlying2 a ha, p.get Try.underlying106 Try.underlying2 c hc, hb⟩
theorem take_next {α : Type} (E : List α) (i : Nat) (h : i < E.length) : E.take (i + 1) = E.take i ++ [E[i]] := by
  rw [List.take_add_one, List.getElem?_eq_getElem h]
  rfl
theorem take_off (E : List Int) (hE : E.Nodup) (i : Nat) (h : i < E.length) : E[i] ∉ E.take i := by
  have hn : (E.take i ++ [E[i]]).Nodup := by
    rw [← take_next E i h]
    exact hE.sublist (List.take_sublist _ _)
  intro hm
  exact (List.nodup_append.1 hn).2.2 _ hm _ (List.mem_singleton_self _) rfl

set_option maxRecDepth 100000 in
set_option maxHeartbeats 8000000 in
theorem implParts_any (s : ByteArray) (hs : s.size ≤ maxLen) (g cap : Nat) (ls : List (List Int)) (bs : Nat → Nat) (g' cap' : Nat) (zs : List StarV) (w : World) (hb : ls.length ≤ 1048577) (hls : ∀ j, (h : j < ls.length) → ls[j].length ≤ 1048577) (hr : LRow w g ls bs)
    (hb' : zs.length ≤ 1048577) (h1 : Row w g' zs) (hok : ∀ j, (h : j < zs.length) → zs[j].ok) :
    Calls Try.prog 47 #[.agg #[.string s, .slice (some ⟨g, 0, none⟩) ls.length cap], .slice (some ⟨g', 0, none⟩) zs.length cap'] w fun e w' => e = .returned (.tuple #[.int .i64 (partV zs s ls).1, .int .i64 (partV zs s ls).2]) ∧ Below w.heap.size w w' := by
  have V := Lib.hid (fun (W : World) (hB : Below w.heap.size w W) => validFigure_any s hs g cap ls bs g' cap' zs W hb hls (hr.below hB) hb' (h1.below hB) hok)
  have HL := Lib.hid hr
  unfold partV
  clear hr hls h1 hok
  cases hv : figV zs s ls with
  | false =>
    rw [if_neg (by simp)]
    rw [hv] at V
    clear hv
    go_enter Try.func47, Try.ntmps47
    go_wp2_with fail
    refine (V.out _ (by repeat (first | exact Below.refl _ _ | refine Below.setCell ?_ (by first | (simp; done) | omega | (simp; omega)) _ | refine Below.alloc ?_ (by first | (simp; done) | omega | (simp; omega)) _ | refine bel_drew ?_))).mono ?_
    rintro e w1 ⟨rfl, hb1⟩
    have HB1 : Hid (Below w.heap.size w w1) := Lib.hid (by
      refine Below.trans ?_ (hb1.mono ?_)
      · repeat (first | exact Below.refl _ _ | refine Below.setCell ?_ (by first | (simp; done) | omega | (simp; omega)) _ | refine Below.alloc ?_ (by first | (simp; done) | omega | (simp; omega)) _ | refine bel_drew ?_)
      · simp)
    clear hb1
    go_wp2_with fail
    go_ret2
    exact ⟨rfl, HB1.out⟩
  | true =>
    rw [if_pos rfl]
    rw [hv] at V
    obtain ⟨ho, hl16, hln⟩ := figV_okP hv
    have LN := Lib.hid hln
    have hl2 : ∀ j, (hj : j < ls.length) → ∃ a c : Int, ls[j] = [a, c] := fun j hj => by
      obtain ⟨a, c, h, _⟩ := hln j hj
      exact ⟨_, _, h⟩
    have EN := Lib.hid (fun (W : World) (hB : Below w.heap.size w W) => ends_any s g cap ls bs W hl16 hl2 (HL.out.below hB))
    have hE : (endsL ls).Nodup := nodup_lt (endsL_spec ls).1
    have ND := Lib.hid hE
    have hE32 : (endsL ls).length ≤ 32 := by
      have h1 := endsUp_len ls hl2 ls.length (Nat.le_refl _)
      unfold endsUp at h1
      rw [List.take_length] at h1
      unfold endsL
      omega
    have EL := Lib.hid (fun j hj a c h => endsL_line ls j hj a c h)
    have PE := Lib.hid (fun K C N h => partN_eq (ls := ls) (K := K) (C := C) (N := N) h)
    have PS := Lib.hid (PInv.start hE)
    clear hv hln hl2 ho hE
    generalize endsL ls = E at *
    generalize partN ls = pn at *
    have hmm1 : ∀ w, (Instr.makeMap 106 none).run Try.prog w = .ok (.map (some w.heap.size)) (w.alloc (.map #[] 0)) := fun w => by simp [Instr.makeMap]
    have hmm2 : ∀ w, (Instr.makeMap 107 none).run Try.prog w = .ok (.map (some w.heap.size)) (w.alloc (.map #[] 0)) := fun w => by simp [Instr.makeMap]
    go_enter Try.func47, Try.ntmps47
    go_wp2_with fail
    refine (V.out _ (by repeat (first | exact Below.refl _ _ | refine Below.setCell ?_ (by first | (simp; done) | omega | (simp; omega)) _ | refine Below.alloc ?_ (by first | (simp; done) | omega | (simp; omega)) _ | refine bel_drew ?_))).mono ?_
    rintro e w1 ⟨rfl, hb1⟩
    have HB1 : Hid (Below w.heap.size w w1) := Lib.hid (by
      refine Below.trans ?_ (hb1.mono ?_)
      · repeat (first | exact Below.refl _ _ | refine Below.setCell ?_ (by first | (simp; done) | omega | (simp; omega)) _ | refine Below.alloc ?_ (by first | (simp; done) | omega | (simp; omega)) _ | refine bel_drew ?_)
      · simp)
    have q0 : w1.cell? ⟨w.heap.size, 0, none⟩ = some (.string s) := (hb1.cell (p := ⟨w.heap.size, 0, none⟩) (by simp)).trans (by simp)
    have q1 : w1.cell? ⟨w.heap.size, 1, none⟩ = some (.slice (some ⟨g, 0, none⟩) ls.length cap) := (hb1.cell (p := ⟨w.heap.size, 1, none⟩) (by simp)).trans (by simp)
    have l1 : w.heap.size < w1.heap.size := World.block_lt_of_cell? _ _ q0
    clear hb1 V
    have PN := Lib.hid (pw_new w w1 HB1.out (fun k => [k]) (fun _ => 0) (fun _ => 0))
    obtain ⟨W2, hW2⟩ : ∃ W, W = (w1.alloc (.map #[] 0)).alloc (.map #[] 0) := ⟨_, rfl⟩
    have k0 : W2.cell? ⟨w.heap.size, 0, none⟩ = some (.string s) := by rw [hW2, World.cell?_alloc_lt _ _ _ (show w.heap.size < _ by simp; omega), World.cell?_alloc_lt _ _ _ (show w.heap.size < _ from l1)]; exact q0
    have k1 : W2.cell? ⟨w.heap.size, 1, none⟩ = some (.slice (some ⟨g, 0, none⟩) ls.length cap) := by rw [hW2, World.cell?_alloc_lt _ _ _ (show w.heap.size < _ by simp; omega), World.cell?_alloc_lt _ _ _ (show w.heap.size < _ from l1)]; exact q1
    have sz2 : W2.heap.size = w1.heap.size + 1 + 1 := by rw [hW2]; simp
    rw [← hW2] at PN
    have HW := Lib.hid hW2
    clear hW2
    go_wp2_with fail
    rw [← HW.out]
    clear hmm1 hmm2
    refine (EN.out _ PN.out.bel).mono ?_
    rintro e w3 ⟨v2, rfl, hown, hb3⟩
    obtain ⟨aE, capE, rfl, hA⟩ := own_slice hown
    have hlo : ∀ ge, aE = some ⟨ge, 0, none⟩ → W2.heap.size ≤ ge := fun ge e => (hown.lt ge (by rw [e]; rfl)).1
    have P3 := Lib.hid (PN.out.below hb3)
    have m1 : w3.cell? ⟨w.heap.size, 1, none⟩ = some (.slice (some ⟨g, 0, none⟩) ls.length cap) := by
      obtain ⟨cc, _⟩ := bcell hb3
      exact (cc _ _ (by omega)).trans k1
    have hs3 := hb3.size
    clear hb3 hown q0 q1 k0 k1 HW
    have M1 := Lib.hid m1
    have HA := Lib.hid hA
    have LO := Lib.hid hlo
    clear m1 hA hlo
    generalize hb1x : w1.heap.size = b1 at *
    have bne : ∀ (x : Nat), W2.heap.size ≤ x → x ≠ b1 ∧ x ≠ b1 + 1 := fun x hx => by omega
    go_wp2_with fail
    go_loopg [25] (E.length + 1) (fun kx s25 wr => ∃ i : Nat, s25 = .int .i64 (i : Int) ∧ i ≤ E.length ∧ kx = E.length + 1 - i ∧ Hid (∃ G cap, PW w wr w.heap.size b1 (b1 + 1) (E.take i) (fun x => x) (E.take i) (fun k => [k]) G cap) ∧ Hid (∀ b, b < w3.heap.size → b ≠ b1 → b ≠ b1 + 1 → wr.heap[b]? = w3.heap[b]?) ∧ Hid (w3.heap.size ≤ wr.heap.size))
    case atStart => exact ⟨0, rfl, Nat.zero_le _, rfl, Lib.hid ⟨_, _, P3.out⟩, Lib.hid (fun _ _ _ _ => rfl), Lib.hid (Nat.le_refl _)⟩
    case round =>
      obtain ⟨i, rfl, hi, rfl, HP, HK, HS⟩ := hrel
      by_cases hlt : i < E.length
      · obtain ⟨G, cp, hP⟩ := HP.out
        have hx := take_off E ND.out i hlt
        have TN := Lib.hid (take_next E i hlt)
        rcases HA.out with h0 | ⟨ge, hae, hgl, hcc⟩
        · omega
        subst hae
        obtain ⟨n1, n2⟩ := bne ge (LO.out ge rfl)
        have ci : wr.cell? ⟨ge, i, none⟩ = some (.int .i64 E[i]) := (World.cell?_of_block (a := ⟨ge, i, none⟩) (HK.out ge hgl n1 n2)).trans (hcc i hlt)
        obtain ⟨w4, w5, r1, r2, hP5, hk5⟩ := hP.add (ND.out.sublist (List.take_sublist _ _)) E[i] hx
        rw [← TN.out] at hP5
        unfold rowO at r1
        have H5 := Lib.hid hP5
        have sz5 : Hid (w3.heap.size ≤ w5.heap.size) := Lib.hid (by
          have q := hP5.size
          have hs := HS.out
          have e1 := hk5
          rcases Nat.lt_or_ge w5.heap.size w3.heap.size with c | c
          · exfalso
            have l : w5.heap.size < wr.heap.size := by omega
            by_cases d1 : w5.heap.size = b1
            · have := hP5.p1.lt
              omega
            · by_cases d2 : w5.heap.size = b1 + 1
              · have := hP5.p2.lt
                omega
              · have e2 := hk5 _ l d1 d2
                rw [Array.getElem?_eq_none (Nat.le_refl _), Array.getElem?_eq_getElem l] at e2
                cases e2
          · exact c)
        have K5 : Hid (∀ b, b < w3.heap.size → b ≠ b1 → b ≠ b1 + 1 → w5.heap[b]? = w3.heap[b]?) := Lib.hid (fun b hb h1 h2 => (hk5 b (by have := HS.out; omega) h1 h2).trans (HK.out b hb h1 h2))
        have i0 : (0 : Int) ≤ (i : Int) := by omega
        have i1 : (i : Int) < (E.length : Int) := by omega
        clear hP5 hk5 hx hP n1 n2 hcc
        generalize E[i] = x at *
        go_wp2_with fail
        go_roundg (E.length + 1 - (i + 1))
        case measure => omega
        case rel => exact ⟨i + 1, by go_num, by omega, by omega, Lib.hid ⟨_, _, H5.out⟩, K5, sz5⟩
      · obtain rfl : i = E.length := by omega
        have HP' := HP.out
        rw [List.take_length] at HP'
        have q1 : wr.cell? ⟨w.heap.size, 1, none⟩ = some (.slice (some ⟨g, 0, none⟩) ls.length cap) := (World.cell?_of_block (a := ⟨w.heap.size, 1, none⟩) (HK.out _ (by show w.heap.size < _; omega) (by show w.heap.size ≠ _; omega) (by show w.heap.size ≠ _; omega))).trans M1.out
        have HQ : Hid (∃ K C G cap, PInv E (lab ls 0) K C (2 ^ 0) ∧ PW w wr w.heap.size b1 (b1 + 1) E (lab ls 0) K C G cap) := Lib.hid (by
          obtain ⟨G, cp, hP⟩ := HP'
          have e0 : lab ls 0 = fun x => x := by funext x; rfl
          rw [e0]
          exact ⟨E, fun k => [k], G, cp, PS.out, hP⟩)
        clear HP HP' PS HK
        go_wp2_with fail
        clear q1
        go_loopg [40] (ls.length + 1) (fun kx s40 wr => ∃ j : Nat, s40 = .int .i64 (j : Int) ∧ j ≤ ls.length ∧ kx = ls.length + 1 - j ∧ Hid (∃ K C G cap, PInv E (lab ls j) K C (2 ^ j) ∧ PW w wr w.heap.size b1 (b1 + 1) E (lab ls j) K C G cap))
        case atStart => exact ⟨0, rfl, Nat.zero_le _, rfl, HQ⟩
        case round =>
          clear HQ
          obtain ⟨j, rfl, hj, rfl, HQ⟩ := hrel
          obtain ⟨K, C, G, cp, hI, hP⟩ := HQ.out
          by_cases hlt2 : j < ls.length
          · obtain ⟨a, c, hac, la', lc', _⟩ := LN.out j hlt2
            obtain ⟨c0, hx⟩ := (HL.out.below hP.bel).at j hlt2
            obtain ⟨ea, ec⟩ := EL.out j hlt2 _ _ hac
            have LX := Lib.hid (lab_next ls j hlt2 _ _ hac)
            rw [hac] at c0 hx
            have x0 := hx.at 0 (by simp)
            have x1 := hx.at 1 (by simp)
            simp only [List.length_cons, List.length_nil, List.getElem_cons_zero, List.getElem_cons_succ, Nat.zero_add, Nat.reduceAdd] at c0 x0 x1
            have KL := Lib.hid (fun W hb => keepLk hP (bj := bs j) (a := (a : Int)) (c := (c : Int)) ⟨x0, x1⟩ ea ec (W := W) hb)
            have ka : lab ls j (a : Int) ∈ K := (hI.keys _).2 ⟨_, ea, rfl⟩
            have kb : lab ls j (c : Int) ∈ K := (hI.keys _).2 ⟨_, ec, rfl⟩
            have HI := Lib.hid hI
            have HP := Lib.hid hP
            have hla := hI.len _ ka
            have hlb := hI.len _ kb
            have h2j : 2 ^ j ≤ 65536 := Nat.le_trans (Nat.pow_le_pow_right (by decide) (show j ≤ 16 by omega)) (by decide)
            obtain ⟨A, hA⟩ : ∃ A, A = lab ls j (a : Int) := ⟨_, rfl⟩
            obtain ⟨Bq, hBq⟩ : ∃ B, B = lab ls j (c : Int) := ⟨_, rfl⟩
            rw [← hA] at KL LX ka hla
            rw [← hBq] at KL LX kb hlb
            have j0 : (0 : Int) ≤ (j : Int) := by omega
            have j1 : (j : Int) < (ls.length : Int) := by omega
            clear hx hac ea ec hA hBq x0 x1 hI hP HQ
            go_wp2_with fail
            clear c0
            go_region_held3 (fun W => W.cell? ⟨bs j, 0, none⟩ = some (.int .i64 (a : Int)) ∧ W.cell? ⟨bs j, 1, none⟩ = some (.int .i64 (c : Int)) ∧ (Instr.lookup 106 (.map (some b1)) (.int .i64 (a : Int)) false).run Try.prog W = .ok (.int .i64 A) W ∧ (Instr.lookup 106 (.map (some b1)) (.int .i64 (c : Int)) false).run Try.prog W = .ok (.int .i64 Bq) W ∧ Below wr.heap.size wr W) (first | (exact KL.out _ (drewG wr)) | go_keep) (fail)
            all_goals
              rename_i held
              have P12 := Lib.hid (HP.out.below held.2.2.2.2)
              clear held KL
              by_cases heq : A = Bq
              · have e : lab ls (j + 1) = lab ls j := by
                  funext x
                  rw [LX.out x]
                  split
                  · rename_i h; rw [h, heq]
                  · rfl
                have NX : Hid (∃ K C G cap, PInv E (lab ls (j + 1)) K C (2 ^ (j + 1)) ∧ PW w _ w.heap.size b1 (b1 + 1) E (lab ls (j + 1)) K C G cap) := Lib.hid ⟨K, C, G, cp, by rw [e]; exact HI.out.more (Nat.pow_le_pow_right (by decide) (Nat.le_succ _)), by rw [e]; exact P12.out⟩
                clear e LX
                go_wp2_with fail
                go_roundg (ls.length + 1 - (j + 1))
                case measure => omega
                case rel => exact ⟨j + 1, by go_num, by omega, by omega, NX⟩
              · have hbq : (A == Bq) = false := by simpa using heq
                have look := P12.out.p2.get Try.underlying107 Try.underlying2 Bq kb
                go_wp2_with fail
                clear look
                go_loopg [61] ((C Bq).length + 1) (fun kx s61 wq => ∃ t : Nat, s61 = .int .i64 (t : Int) ∧ t ≤ (C Bq).length ∧ kx = (C Bq).length + 1 - t ∧ Hid (∃ G' cp', G' Bq = G Bq ∧ PW w wq w.heap.size b1 (b1 + 1) E (fun x => if x ∈ (C Bq).take t then A else lab ls j x) K (fun k => if k = A then C A ++ (C Bq).take t else C k) G' cp'))
                case atStart =>
                  refine ⟨0, rfl, Nat.zero_le _, rfl, Lib.hid ⟨G, cp, rfl, P12.out.congr (fun x _ => by simp) (fun k _ => ?_)⟩⟩
                  by_cases c : k = A
                  · rw [if_pos c, c, List.take_zero, List.append_nil]
                  · rw [if_neg c]
                case round =>
                  clear P12
                  obtain ⟨t, rfl, ht, rfl, HT⟩ := hrel
                  obtain ⟨G', cp', hG, hP'⟩ := HT.out
                  by_cases hlt3 : t < (C Bq).length
                  · have hxm : (C Bq)[t] ∈ C Bq := List.getElem_mem hlt3
                    have hxE := ((HI.out.rows Bq kb _).1 hxm).1
                    have ob := hP'.own Bq kb
                    have hBA : Bq ≠ A := fun e => heq e.symm
                    rw [if_neg hBA, hG] at ob
                    have cx : wr.cell? ⟨G Bq, t, none⟩ = some (.int .i64 (C Bq)[t]) := by
                      rw [ob.cellAt t (by omega), List.getElem?_map, List.getElem?_eq_getElem hlt3]
                      rfl
                    have TN := Lib.hid (take_next (C Bq) t hlt3)
                    obtain ⟨w4, r1, lk, own, bw, sw, cont⟩ := hP'.over ND.out HI.out.nodup A (C Bq)[t] ka hxE
                    rw [if_pos rfl] at lk own cont
                    obtain ⟨L, hL⟩ : ∃ L, L = C A ++ (C Bq).take t := ⟨_, rfl⟩
                    have hnn : (C A ++ (C Bq).take t).length ≤ 131072 := by
                      rw [List.length_append, List.length_take]
                      omega
                    rw [← hL] at lk own cont hnn
                    have CT := Lib.hid cont
                    have HLx := Lib.hid hL
                    clear hL
                    have HBA := Lib.hid hBA
                    have HGq := Lib.hid hG
                    clear hBA hG
                    have t0 : (0 : Int) ≤ (t : Int) := by omega
                    have t1 : (t : Int) < ((C Bq).length : Int) := by omega
                    obtain ⟨i0, hi, hzz⟩ := Option.map_eq_some_iff.1 info_n64
                    simp only [Prod.mk.injEq] at hzz
                    obtain ⟨hz0, hz1, hz2⟩ := hzz
                    clear cont ob hP' HT hxm hxE
                    obtain ⟨x, hxx⟩ : ∃ x, x = (C Bq)[t] := ⟨_, rfl⟩
                    rw [← hxx] at cx TN r1 CT
                    clear hxx
                    go_wp2_with (at_builtin; (refine wpList_append_lies _ rfl _ _ 59 rfl w.heap.size 2 i0 (.int .i64 0) 1 8 Try.underlying59 hi hz0 hz1 hz2 rfl (by decide) _ _ _ rfl (own.alloc _) ⟨w4.heap.size, 0, none⟩ 1 1 [.int .i64 x] rfl rfl ?c1 ?c2 ?c0 ?c3 ?c4 ?c5 (w4.heap.size + 1) ?c6 ?_))
                    case c1 => exact one_cellE _ _ _
                    case c2 => exact one_plainE _
                    case c0 => omega
                    case c3 => unfold maxLen; omega
                    case c4 => omega
                    case c5 => simp; omega
                    case c6 => simp
                    intro gg cap2 w6 hown' hgrow hlies hlt4
                    obtain ⟨w7, r2, hP7⟩ := CT.out gg cap2 w6 hown' (by simpa [Value.ownBlock, rowO] using hgrow) (by simpa [Value.ownBlock] using hlies)
                    have NX : Hid (∃ G' cp', G' Bq = G Bq ∧ PW w w7 w.heap.size b1 (b1 + 1) E (fun x => if x ∈ (C Bq).take (t + 1) then A else lab ls j x) K (fun k => if k = A then C A ++ (C Bq).take (t + 1) else C k) G' cp') := Lib.hid ⟨_, _, by rw [if_neg HBA.out]; exact HGq.out, hP7.congr (fun y _ => by
                      rw [TN.out]
                      by_cases c : y = x
                      · rw [if_pos c, if_pos (by rw [c]; simp)]
                      · rw [if_neg c]
                        simp [c]) (fun k _ => by
                      rw [TN.out]
                      by_cases c : k = A
                      · rw [if_pos c, if_pos c, HLx.out, List.append_assoc]
                      · rw [if_neg c, if_neg c, if_neg c])⟩
                    clear hown' hgrow hlies hP7 CT own bw sw lk r1 hi hz0 hz1 hz2 cx
                    go_wp2_with fail
                    go_roundg ((C Bq).length + 1 - (t + 1))
                    case measure => omega
                    case rel => exact ⟨t + 1, by go_num, by omega, by omega, NX⟩
                  · obtain rfl : t = (C Bq).length := by omega
                    rw [List.take_length] at hP'
                    obtain ⟨w8, rd, hP8⟩ := hP'.gone HI.out.nodup Bq kb
                    have e : lab ls (j + 1) = fun x => if lab ls j x = Bq then A else lab ls j x := by
                      funext x
                      exact LX.out x
                    have NX : Hid (∃ K C G cap, PInv E (lab ls (j + 1)) K C (2 ^ (j + 1)) ∧ PW w w8 w.heap.size b1 (b1 + 1) E (lab ls (j + 1)) K C G cap) := Lib.hid ⟨_, _, G', cp', by rw [e]; exact (HI.out.join ka kb heq).more (by rw [Nat.pow_succ]; omega), by
                      rw [e]
                      refine hP8.congr (fun x hx => ?_) (fun k _ => rfl)
                      by_cases d : lab ls j x = Bq
                      · rw [if_pos d, if_pos ((HI.out.rows Bq kb x).2 ⟨hx, d⟩)]
                      · rw [if_neg d, if_neg (fun h => d ((HI.out.rows Bq kb x).1 h).2)]⟩
                    clear hP' hP8 HT e LX
                    go_wp2_with fail
                    go_roundg (ls.length + 1 - (j + 1))
                    case measure => omega
                    case rel => exact ⟨j + 1, by go_num, by omega, by omega, NX⟩
          · obtain rfl : j = ls.length := by omega
            have ln : ∀ ty, (Builtin.len_ #[107] ty #[.map (some (b1 + 1))]).run Try.prog wr = .ok (.int .i64 (K.length : Int)) wr := fun ty => hP.p2.len Try.underlying107 ty
            rw [PE.out K C _ hI] at ln
            have HBe := Lib.hid hP.bel
            clear hI hP HQ
            go_wp2_with fail
            go_ret2
            exact ⟨rfl, HBe.out⟩
end Go.Proofs.Ytfjhlapcopjfiaa
