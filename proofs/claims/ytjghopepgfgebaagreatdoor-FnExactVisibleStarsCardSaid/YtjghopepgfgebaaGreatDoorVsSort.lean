/-
  sort.Slice of places by altitude (package impl's closure).
-/
import Derived.Test.YtjghopepgfgebaaGreatDoorVsM
import Derived.Test.YtjghopepgfgebaaGreatDoorShelfSl
import Derived.Shelf.GgSortFunc.Tiny
import Derived.Sort.OwnSortedInts
import Derived.Shelf.Abstract
import Derived.Deep.QuietTactic
import Derived.BigQuiet
namespace Go.Proofs.YtjghopepgfgebaaGreatDoor
open Go.RowKit
set_option linter.unusedVariables false

set_option maxRecDepth 100000 in
set_option maxHeartbeats 2000000 in
theorem lessVs_any (Bv Ba gv G n c cc size : Nat) (f : Nat → Int) (d : Nat → Nat) (W : World) (hv : W.cell? ⟨Bv, 0, none⟩ = some (.slice (some ⟨gv, 0, none⟩) size c)) (ha : W.cell? ⟨Ba, 0, none⟩ = some (.slice (some ⟨G, 0, none⟩) n cc))
    (hr : ∀ t, t < size → W.cell? ⟨gv, t, none⟩ = some (.int .i64 (d t : Int))) (hd : ∀ t, t < size → d t < n) (hf : ∀ k, k < n → W.cell? ⟨G, k, none⟩ = some (.int .i64 (f k))) (i j : Nat) (hi : i < size) (hj : j < size) (hs : size < 4611686018427387904) (hn : n < 4611686018427387904) :
    Calls Tryz.prog 35 #[.int .i64 i, .int .i64 j, .pointer (some ⟨Bv, 0, none⟩), .pointer (some ⟨Ba, 0, none⟩)] W fun e w' => e = .returned (.bool (gtA f (d i) (d j))) ∧ ∃ q, w' = W.drewN q := by
  have ci := hr i hi
  have cj := hr j hj
  have fi := hf (d i) (hd i hi)
  have fj := hf (d j) (hd j hj)
  have di := hd i hi
  have dj := hd j hj
  unfold gtA
  clear hr hd hf
  generalize d i = x at *
  generalize d j = y at *
  generalize f x = u at *
  generalize f y = v at *
  have x0 : (0 : Int) ≤ (x : Int) := by omega
  have x1 : (x : Int) < (n : Int) := by omega
  have y0 : (0 : Int) ≤ (y : Int) := by omega
  have y1 : (y : Int) < (n : Int) := by omega
  have i0 : (0 : Int) ≤ (i : Int) := by omega
  have i1 : (i : Int) < (size : Int) := by omega
  have j0 : (0 : Int) ≤ (j : Int) := by omega
  have j1 : (j : Int) < (size : Int) := by omega
  by_cases c : u = v
  · rw [if_pos c]
    have hne : (u != v) = false := by simp [c]
    clear c
    go_enter Tryz.func35, Tryz.ntmps35
    go_wp2_with fail
    go_quiet (fail)
    rename Nat => q1
    go_wp2_with fail
    go_quiet (fail)
    rename Nat => q2
    go_wp2_with fail
    go_ret
    exact ⟨rfl, _, by first | rfl | (rw [World.drewN_drewN])⟩
  · rw [if_neg c]
    have hne : (u != v) = true := by simp [c]
    clear c
    go_enter Tryz.func35, Tryz.ntmps35
    go_wp2_with fail
    go_quiet (fail)
    rename Nat => q1
    go_wp2_with fail
    go_quiet (fail)
    rename Nat => q2
    go_wp2_with fail
    go_quiet (fail)
    rename Nat => q3
    go_wp2_with fail
    go_ret
    exact ⟨rfl, _, by first | rfl | (rw [World.drewN_drewN, World.drewN_drewN])⟩

noncomputable def slT : TypeInfo := (Tryz.prog.info? 27).get (by kernel_rfl)
noncomputable def slE : TypeInfo := (Tryz.prog.info? 2).get (by kernel_rfl)
theorem slK (n : Nat) (h2 : 2 ≤ n) : Lib.swapperK n slE 6 = 5 := by
  have a : slE.hasPointers = false := by kernel_rfl
  have b : slE.bytes = 8 := by kernel_rfl
  have c : (n == 0) = false := by simp; omega
  have d : (n == 1) = false := by simp; omega
  simp [Lib.swapperK, a, b, c, d]
theorem slK0 : Lib.swapperK 0 slE 6 = 1 := by simp [Lib.swapperK]
theorem slK1 : Lib.swapperK 1 slE 6 = 2 := by simp [Lib.swapperK]
/-- Places as numbers. -/
def asI (L : List Nat) : List Int := L.map (fun x : Nat => (x : Int))
theorem asI_len (L : List Nat) : (asI L).length = L.length := by simp [asI]
theorem asI_get (L : List Nat) (j : Nat) (h : j < L.length) : (asI L)[j]? = some (L[j] : Int) := by simp [asI, h]
/-- A place as a value; the numbers of a row of places. -/
def encV (n : Nat) (x : Nat) : Value := .int .i64 ((x % n : Nat) : Int)
def ltV (f : Nat → Int) (n : Nat) (x y : Nat) : Bool := gtA f (x % n) (y % n)
theorem swoV (f : Nat → Int) (n : Nat) : Go.Sort.SWO (ltV f n) where
  irrefl x := gtA_irr f _
  trans x y z h1 h2 := gtA_trans f _ _ _ h1 h2
  ntrans x y z h1 h2 := gtA_ntrans f _ _ _ h1 h2
theorem putCellsV (n : Nat) (d : Array Nat) (ts : List Nat) (hd : d.toList = ts) (ht : ∀ x, x ∈ ts → x < n) (c : Array Value) : Go.Sort.putCells (encV n) 0 d c = Go.Sort.putCells (Value.int .i64) 0 (asI ts).toArray c := by
  subst hd
  unfold Go.Sort.putCells
  apply Array.ext_getElem?
  intro k
  rw [Array.getElem?_mapIdx, Array.getElem?_mapIdx]
  congr 1
  funext x
  have hs : (asI d.toList).toArray.size = d.size := by simp [asI]
  rw [hs]
  by_cases h : 0 ≤ k ∧ k < 0 + d.size
  · rw [if_pos h, if_pos h]
    have hk : k < d.size := by omega
    have hm := ht d[k] (by rw [Array.mem_toList_iff]; exact Array.getElem_mem hk)
    rw [Nat.sub_zero, getElem!_pos d k hk, getElem!_pos _ k (by rw [hs]; exact hk)]
    unfold encV
    rw [Nat.mod_eq_of_lt hm]
    simp [asI]
  · rw [if_neg h, if_neg h]
theorem growV (W : World) (os : Array Obj) (r : Option Nat) : W.grownBy (Go.Sort.grow W os) r := by
  refine ⟨rfl, rfl, rfl, by simp, fun k hk _ => ?_⟩
  rw [Go.Sort.heap_grow_old _ _ hk]

set_option maxRecDepth 100000 in
set_option maxHeartbeats 4000000 in
theorem sortVs_any (B Bv Ba gv G n cc cap : Nat) (f : Nat → Int) (ss : List Nat) (hss : ∀ x, x ∈ ss → x < n) (hlen : ss.length ≤ 1000) (hn : n ≤ 1048577) (W : World)
    (own : W.ownsRow B 2 1 (.slice (some ⟨gv, 0, none⟩) ss.length cap) ss.length ((asI ss).map (Value.int .i64)))
    (hv : W.cell? ⟨Bv, 0, none⟩ = some (.slice (some ⟨gv, 0, none⟩) ss.length cap)) (ha : W.cell? ⟨Ba, 0, none⟩ = some (.slice (some ⟨G, 0, none⟩) n cc)) (hf : ∀ k, k < n → W.cell? ⟨G, k, none⟩ = some (.int .i64 (f k))) (n1 : Bv ≠ gv) (n2 : Ba ≠ gv) (n3 : G ≠ gv) :
    Calls Tryz.prog 34 #[.iface 27 (.slice (some ⟨gv, 0, none⟩) ss.length cap), .func (.func 35) #[] #[.pointer (some ⟨Bv, 0, none⟩), .pointer (some ⟨Ba, 0, none⟩)]] W fun e w' =>
      e = .returned (.tuple #[]) ∧ ∃ ts : List Nat, ts.Perm ss ∧ SortV f ts ∧ w'.ownsRow B 2 1 (.slice (some ⟨gv, 0, none⟩) ts.length cap) ts.length ((asI ts).map (Value.int .i64)) ∧ W.grownBy w' (some gv) := by
  by_cases hl : ss.length ≤ 1
  · have fin : ∀ w', (∃ os, w' = Go.Sort.grow W os) → ∃ ts : List Nat, ts.Perm ss ∧ SortV f ts ∧ w'.ownsRow B 2 1 (.slice (some ⟨gv, 0, none⟩) ts.length cap) ts.length ((asI ts).map (Value.int .i64)) ∧ W.grownBy w' (some gv) := by
      rintro w' ⟨os, rfl⟩
      refine ⟨ss, List.Perm.refl _, ?_, own.kept (growV W os none) (Or.inr (by simp [Value.ownBlock])), growV W os _⟩
      match ss, hl with
      | [], _ => exact List.Pairwise.nil
      | [x], _ => exact List.pairwise_singleton _ _
    by_cases h0 : ss.length = 0
    · have hS := Any.sort_Slice_tiny Tryz.sl6 27 2 slT slE (by kernel_rfl) (by kernel_rfl) (by kernel_rfl) (by kernel_rfl) 6 (fun _ => by kernel_rfl) (some ⟨gv, 0, none⟩) ss.length cap hl 86 (by rw [h0, slK0]; kernel_rfl) (.func 35) #[] #[.pointer (some ⟨Bv, 0, none⟩), .pointer (some ⟨Ba, 0, none⟩)] W
      change Calls Tryz.prog 34 _ _ _ at hS
      exact hS.mono fun e w' ⟨he, hw⟩ => ⟨he, fin w' hw⟩
    · have h1 : ss.length = 1 := by omega
      have hS := Any.sort_Slice_tiny Tryz.sl6 27 2 slT slE (by kernel_rfl) (by kernel_rfl) (by kernel_rfl) (by kernel_rfl) 6 (fun _ => by kernel_rfl) (some ⟨gv, 0, none⟩) ss.length cap hl 87 (by rw [h1, slK1]; kernel_rfl) (.func 35) #[] #[.pointer (some ⟨Bv, 0, none⟩), .pointer (some ⟨Ba, 0, none⟩)] W
      change Calls Tryz.prog 34 _ _ _ at hS
      exact hS.mono fun e w' ⟨he, hw⟩ => ⟨he, fin w' hw⟩
  · have hsz : ss.toArray.size = ss.length := by simp
    rcases own.2 with ⟨hvn, _⟩ | ⟨g1, cap1, cur, hve, hg, hh, hc1, hc2, hc3, ht⟩
    · cases hvn
    · injection hve with e1 e2 e3
      injection e1 with e1
      injection e1 with e1
      subst e1
      subst e3
      have hgl : gv < W.heap.size := (Array.getElem?_eq_some_iff.1 hh).1
      have hpos : 0 < n := by
        cases ss with
        | nil => simp at hl
        | cons x l => have := hss x (List.mem_cons_self ..); omega
      have hH : Go.Sort.Holds (encV n) W gv 0 ss.toArray := by
        intro j hj
        have hj' : j < ss.length := by simpa using hj
        refine ⟨?_, by rw [Nat.zero_add]; exact own.frozenAt j⟩
        rw [Nat.zero_add, own.cellAt j (by omega), List.getElem?_map, asI_get ss j hj', getElem!_pos ss.toArray j hj]
        unfold encV
        rw [List.getElem_toArray, Nat.mod_eq_of_lt (hss _ (List.getElem_mem hj'))]
        rfl
      have hless : LessReads Tryz.prog 35 #[.pointer (some ⟨Bv, 0, none⟩), .pointer (some ⟨Ba, 0, none⟩)] (encV n) (ltV f n) gv 0 ss.toArray.size W := by
        intro m os dk hs i j hi hj
        rw [hsz] at hs hi hj
        have e : sortWorld (encV n) W gv 0 m dk os = Go.Sort.putRow (encV n) (Go.Sort.grow (Go.Sort.ahead W m) os) gv 0 dk := by
          unfold sortWorld
          rw [Go.Sort.putRow_grow _ (Go.Sort.ahead W m) _ gv _ _ hgl]
        have hHg : Go.Sort.Holds (encV n) (Go.Sort.grow (Go.Sort.ahead W m) os) gv 0 ss.toArray := Go.Sort.holds_grow _ _ _ gv 0 _ hgl (Go.Sort.holds_ahead _ _ _ _ _ _ hH)
        have far : ∀ (b k : Nat) (u : Value), b ≠ gv → W.cell? ⟨b, k, none⟩ = some u → (sortWorld (encV n) W gv 0 m dk os).cell? ⟨b, k, none⟩ = some u := by
          intro b k u hb hu
          have hbl : b < W.heap.size := World.block_lt_of_cell? W ⟨b, k, none⟩ hu
          rw [e, Go.Sort.cell?_putRow_other _ _ gv 0 dk _ (Or.inl hb), Go.Sort.cell?_grow _ _ _ (by exact hbl)]
          exact hu
        exact lessVs_any Bv Ba gv G n cap cc ss.length f (fun t => dk[t]! % n) _ (far _ _ _ n1 hv) (far _ _ _ n2 ha) (fun t ht => by
          have h := Go.Sort.cell?_putRow (encV n) _ gv 0 ss.toArray dk hHg (by rw [hs, hsz]) t (by omega)
          rw [Nat.zero_add] at h
          rw [e]
          exact h) (fun t ht => Nat.mod_lt _ hpos) (fun k hk => far _ _ _ n3 (hf k hk)) i j hi hj (by omega) (by omega)
      have hS := Any.sort_Slice_sorted Tryz.sl6 27 2 slT slE (by kernel_rfl) (by kernel_rfl) (by kernel_rfl) (by kernel_rfl) 6 (fun _ => by kernel_rfl) (by kernel_rfl) (fun _ => by kernel_rfl) (encV n) (fun _ => rfl) (ltV f n) (swoV f n) 35 _
        (enters_of Tryz.func35 (by kernel_rfl) rfl) gv 0 cap ss.toArray (by rw [hsz]; omega) (by rw [hsz]; omega) 90 (by rw [hsz, slK _ (by omega)]; kernel_rfl) true
        (fun args W => run_callFunc_extern Tryz.func90 (by kernel_rfl) (by kernel_rfl) (by kernel_rfl) (e := Extern.ReflectliteSwapper.swap true) (by kernel_rfl) args W) W hless hH hgl
      change Calls Tryz.prog 34 _ _ _ at hS
      rw [hsz] at hS
      refine hS.mono ?_
      rintro e w' ⟨he, d', m, os, hP, hSo, hw⟩
      refine ⟨he, d'.toList, ?_⟩
      obtain ⟨hds, _, hperm⟩ := hP
      rw [hsz] at hds
      have ex : d'.extract 0 ss.length = d' := by rw [← hds]; exact Array.extract_size
      have ex2 : ss.toArray.extract 0 ss.length = ss.toArray := by
        have : ss.toArray.size = ss.length := hsz
        rw [← this]; exact Array.extract_size
      rw [ex, ex2] at hperm
      have hpm : d'.toList.Perm ss := by simpa using hperm
      have hlt : ∀ x, x ∈ d'.toList → x < n := fun x hx => hss x (hpm.mem_iff.1 hx)
      have hlen2 : d'.toList.length = ss.length := hpm.length_eq
      have hw2 : w' = Go.Sort.grow (Go.Sort.putRow (Value.int .i64) (Go.Sort.ahead W m) gv 0 (asI d'.toList).toArray) os := by
        rw [hw]
        unfold Go.Sort.putRow
        rw [show Go.Sort.putCells (encV n) 0 d' = Go.Sort.putCells (Value.int .i64) 0 (asI d'.toList).toArray from funext fun c => putCellsV n d' d'.toList rfl hlt c]
      refine ⟨hpm, ?_, ?_, ?_⟩
      · unfold SortV
        rw [List.pairwise_iff_getElem]
        intro i j hi hj hij
        have hi' : i < d'.size := by simpa using hi
        have hj' : j < d'.size := by simpa using hj
        have h := hSo i j (Nat.zero_le _) hij (by omega)
        rw [getElem!_pos d' j hj', getElem!_pos d' i hi'] at h
        unfold ltV at h
        rw [Nat.mod_eq_of_lt (hlt _ (by rw [Array.mem_toList_iff]; exact Array.getElem_mem hj')), Nat.mod_eq_of_lt (hlt _ (by rw [Array.mem_toList_iff]; exact Array.getElem_mem hi'))] at h
        simpa using h
      · rw [hw2, hlen2]
        have h := ownsRow_sortedI (w := W) (base := B) (n := m) (os := os) (ss := asI ss) (ts := asI d'.toList) (by rw [asI_len, asI_len, hlen2]) hg hh (by rw [asI_len]; exact hc1) hc2 hc3
        rw [asI_len] at h
        exact h
      · rw [hw2]
        exact grownBy_sortedI _
end Go.Proofs.YtjghopepgfgebaaGreatDoor
