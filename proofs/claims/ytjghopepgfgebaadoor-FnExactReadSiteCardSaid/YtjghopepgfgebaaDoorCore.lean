/-
  The contracts of the basic helpers of package impl: least, greatest and within, at int64, int and byte: each returns what its Lean function says and leaves the world as it was.
-/
import Derived.Test.YtjghopepgfgebaaDoorRows
import Derived.WalkKit
import Derived.ProofKit
import Derived.OpenShut
import Derived.WalkLawsBesides
import Derived.Lib.Hide
import Derived.Below
namespace Go.Proofs.YtjghopepgfgebaaDoor
open Go.RowKit

theorem ret_str {a b : ByteArray} (h : a = b) : Ending.returned (.string a) = .returned (.string b) := by rw [h]
theorem ret_int {k : IntKind} {a b : Int} (h : a = b) : Ending.returned (.int k a) = .returned (.int k b) := by rw [h]
theorem ret_bool {a b : Bool} (h : a = b) : Ending.returned (.bool a) = .returned (.bool b) := by rw [h]
def mnI (a b : Int) : Int := if b < a then b else a
def mxI (a b : Int) : Int := if a < b then b else a
def leastI (f : Int) (zs : List Int) : Int := zs.foldl mnI f
def greatestI (f : Int) (zs : List Int) : Int := zs.foldl mxI f
def inR (lo hi : Int) (zs : List Int) : Bool := zs.all fun z => decide (lo ≤ z) && decide (z ≤ hi)

theorem leastI_snoc (f : Int) (zs : List Int) (k : Nat) (h : k < zs.length) : leastI f (zs.take (k + 1)) = mnI (leastI f (zs.take k)) zs[k] := by
  unfold leastI
  rw [List.take_succ_eq_append_getElem h, List.foldl_append]
  rfl
theorem greatestI_snoc (f : Int) (zs : List Int) (k : Nat) (h : k < zs.length) : greatestI f (zs.take (k + 1)) = mxI (greatestI f (zs.take k)) zs[k] := by
  unfold greatestI
  rw [List.take_succ_eq_append_getElem h, List.foldl_append]
  rfl
theorem leastI_le (f : Int) (zs : List Int) : leastI f zs ≤ f := by
  induction zs generalizing f with
  | nil => exact Int.le_refl _
  | cons z zs ih =>
    have h := ih (mnI f z)
    have e : leastI f (z :: zs) = leastI (mnI f z) zs := rfl
    rw [e]
    have : mnI f z ≤ f := by unfold mnI; split <;> omega
    omega
theorem greatestI_ge (f : Int) (zs : List Int) : f ≤ greatestI f zs := by
  induction zs generalizing f with
  | nil => exact Int.le_refl _
  | cons z zs ih =>
    have h := ih (mxI f z)
    have e : greatestI f (z :: zs) = greatestI (mxI f z) zs := rfl
    rw [e]
    have : f ≤ mxI f z := by unfold mxI; split <;> omega
    omega
theorem leastI_eq (f : Int) (zs : List Int) : (leastI f zs == f) = zs.all fun z => decide (f ≤ z) := by
  induction zs generalizing f with
  | nil => simp [leastI]
  | cons z zs ih =>
    have e : leastI f (z :: zs) = leastI (mnI f z) zs := rfl
    rw [e, List.all_cons]
    by_cases h : f ≤ z
    · have e2 : mnI f z = f := by unfold mnI; rw [if_neg (by omega)]
      rw [e2, ih f]; simp [h]
    · have hle := leastI_le (mnI f z) zs
      have : mnI f z = z := by unfold mnI; rw [if_pos (by omega)]
      simp [h]; omega
theorem greatestI_eq (f : Int) (zs : List Int) : (greatestI f zs == f) = zs.all fun z => decide (z ≤ f) := by
  induction zs generalizing f with
  | nil => simp [greatestI]
  | cons z zs ih =>
    have e : greatestI f (z :: zs) = greatestI (mxI f z) zs := rfl
    rw [e, List.all_cons]
    by_cases h : z ≤ f
    · have e2 : mxI f z = f := by unfold mxI; rw [if_neg (by omega)]
      rw [e2, ih f]; simp [h]
    · have hle := greatestI_ge (mxI f z) zs
      have : mxI f z = z := by unfold mxI; rw [if_pos (by omega)]
      simp [h]; omega
theorem inR_eq (lo hi : Int) (zs : List Int) : inR lo hi zs = ((leastI lo zs == lo) && (greatestI hi zs == hi)) := by
  rw [leastI_eq, greatestI_eq]
  unfold inR
  induction zs with
  | nil => rfl
  | cons z zs ih =>
    simp only [List.all_cons, ih]
    cases decide (lo ≤ z) <;> cases decide (z ≤ hi) <;> cases (zs.all fun z => decide (lo ≤ z)) <;> cases (zs.all fun z => decide (z ≤ hi)) <;> rfl

set_option maxHeartbeats 400000 in
theorem least64 (first : Int) (b off n cap : Nat) (zs : List Int) (w : World) (hn : zs.length = n) (hbig : n ≤ 9223372036854775807)
    (hc : ∀ j, j < zs.length → w.cell? ⟨b, off + j, none⟩ = some (.int .i64 (zs.getD j 0))) :
    Calls Tryd.prog 93 #[.int .i64 first, .slice (some ⟨b, off, none⟩) n cap] w fun e w' => e = .returned (.int .i64 (leastI first zs)) ∧ w = w' := by
  subst hn
  go_enter Tryd.func93, Tryd.ntmps93
  go_wp2
  go_loop [0, 9] (fun t i => ∃ k : Nat, k ≤ zs.length ∧ i = .int .i64 k ∧ t = .int .i64 (leastI first (zs.take k))) (fun _ i => zs.length - (intOf i).toNat)
  case atStart => exact ⟨0, Nat.zero_le _, rfl, rfl⟩
  case round =>
    obtain ⟨k, hk, rfl, rfl⟩ := hrel
    have hcell : k < zs.length → w.cell? ⟨b, off + k, none⟩ = some (.int .i64 (zs.getD k 0)) := fun _ => hc k (by omega)
    clear hc
    go_wp2
    · have hlt : k < zs.length := by assumption
      go_round
      case rel => exact ⟨k + 1, by omega, by go_num, by rw [leastI_snoc first zs k hlt]; rfl⟩
      case measure => simp [intOf]; omega
    · have hge : ¬ k < zs.length := by assumption
      go_ret
      exact ⟨ret_int (by rw [List.take_of_length_le (by omega)]), rfl⟩

set_option maxHeartbeats 400000 in
theorem greatest64 (first : Int) (b off n cap : Nat) (zs : List Int) (w : World) (hn : zs.length = n) (hbig : n ≤ 9223372036854775807)
    (hc : ∀ j, j < zs.length → w.cell? ⟨b, off + j, none⟩ = some (.int .i64 (zs.getD j 0))) :
    Calls Tryd.prog 94 #[.int .i64 first, .slice (some ⟨b, off, none⟩) n cap] w fun e w' => e = .returned (.int .i64 (greatestI first zs)) ∧ w = w' := by
  subst hn
  go_enter Tryd.func94, Tryd.ntmps94
  go_wp2
  go_loop [0, 9] (fun t i => ∃ k : Nat, k ≤ zs.length ∧ i = .int .i64 k ∧ t = .int .i64 (greatestI first (zs.take k))) (fun _ i => zs.length - (intOf i).toNat)
  case atStart => exact ⟨0, Nat.zero_le _, rfl, rfl⟩
  case round =>
    obtain ⟨k, hk, rfl, rfl⟩ := hrel
    have hcell : k < zs.length → w.cell? ⟨b, off + k, none⟩ = some (.int .i64 (zs.getD k 0)) := fun _ => hc k (by omega)
    clear hc
    go_wp2
    · have hlt : k < zs.length := by assumption
      go_round
      case rel => exact ⟨k + 1, by omega, by go_num, by rw [greatestI_snoc first zs k hlt]; rfl⟩
      case measure => simp [intOf]; omega
    · have hge : ¬ k < zs.length := by assumption
      go_ret
      exact ⟨ret_int (by rw [List.take_of_length_le (by omega)]), rfl⟩

set_option maxHeartbeats 400000 in
theorem within64 (lo hi : Int) (b off n cap : Nat) (zs : List Int) (w : World) (hn : zs.length = n) (hbig : n ≤ 9223372036854775807)
    (hc : ∀ j, j < zs.length → w.cell? ⟨b, off + j, none⟩ = some (.int .i64 (zs.getD j 0))) :
    Calls Tryd.prog 56 #[.int .i64 lo, .int .i64 hi, .slice (some ⟨b, off, none⟩) n cap] w fun e w' => e = .returned (.bool (inR lo hi zs)) ∧ w = w' := by
  have h1 := least64 lo b off n cap zs w hn hbig hc
  have h2 := greatest64 hi b off n cap zs w hn hbig hc
  rw [inR_eq]
  have H1 := Lib.hid h1
  have H2 := Lib.hid h2
  clear h1 h2 hc hn
  generalize leastI lo zs = m at *
  generalize greatestI hi zs = m2 at *
  by_cases c : (m == lo) = true
  · rw [c, Bool.true_and]
    go_enter Tryd.func56, Tryd.ntmps56
    go_wp2_with fail
    refine H1.out.mono ?_
    rintro e w' ⟨rfl, rfl⟩
    go_wp2_with fail
    refine H2.out.mono ?_
    rintro e w' ⟨rfl, rfl⟩
    go_wp2_with fail
    go_ret
    exact ⟨rfl, rfl⟩
  · have c' : (m == lo) = false := by simpa using c
    rw [c', Bool.false_and]
    clear c
    go_enter Tryd.func56, Tryd.ntmps56
    go_wp2_with fail
    refine H1.out.mono ?_
    rintro e w' ⟨rfl, rfl⟩
    go_wp2_with fail
    go_ret
    exact ⟨rfl, rfl⟩

set_option maxHeartbeats 400000 in
theorem l00In_any (n lo hi : Int) (w : World) :
    Calls Tryd.prog 66 #[.int .i64 n, .int .i64 lo, .int .i64 hi] w fun e w' => e = .returned (.bool (inR lo hi [n])) ∧ w = w' := by
  have e1 : inR lo hi [n] = (decide (lo ≤ n) && decide (n ≤ hi)) := by simp [inR]
  rw [e1]
  by_cases c : lo ≤ n
  · have c' : decide (lo ≤ n) = true := by simpa using c
    rw [c', Bool.true_and]
    go_enter Tryd.func66, Tryd.ntmps66
    go_wp2
    go_ret
    exact ⟨rfl, rfl⟩
  · have c' : decide (lo ≤ n) = false := by simpa using c
    rw [c', Bool.false_and]
    go_enter Tryd.func66, Tryd.ntmps66
    go_wp2
    go_ret
    exact ⟨rfl, rfl⟩

theorem inR_2 (lo hi a b : Int) : inR lo hi [a, b] = (inR lo hi [a] && inR lo hi [b]) := by simp [inR]
theorem inR_1 (lo hi a : Int) : inR lo hi [a] = true ↔ lo ≤ a ∧ a ≤ hi := by simp [inR]

theorem cells_2 (w : World) (T : TypeId) (a b : Int) : ∀ j, j < [a, b].length →
    (w.alloc (Obj.cells #[.int .i64 a, .int .i64 b] T)).cell? ⟨w.heap.size, 0 + j, none⟩ = some (.int .i64 ([a, b].getD j 0)) := by
  intro j hj
  match j, hj with
  | 0, _ => simp
  | 1, _ => simp

theorem cells_1 (k : IntKind) (w : World) (T : TypeId) (a : Int) : ∀ j, j < [a].length →
    (w.alloc (Obj.cells #[.int k a] T)).cell? ⟨w.heap.size, 0 + j, none⟩ = some (.int k ([a].getD j 0)) := by
  intro j hj
  match j, hj with
  | 0, _ => simp

theorem cells_4 (w : World) (T : TypeId) (a b c d : Int) : ∀ j, j < [a, b, c, d].length →
    (w.alloc (Obj.cells #[.int .i64 a, .int .i64 b, .int .i64 c, .int .i64 d] T)).cell? ⟨w.heap.size, 0 + j, none⟩ = some (.int .i64 ([a, b, c, d].getD j 0)) := by
  intro j hj
  match j, hj with
  | 0, _ => simp
  | 1, _ => simp
  | 2, _ => simp
  | 3, _ => simp

theorem within1 (lo hi a : Int) (b cap : Nat) (w : World) (hc : w.cell? ⟨b, 0, none⟩ = some (.int .i64 a)) :
    Calls Tryd.prog 56 #[.int .i64 lo, .int .i64 hi, .slice (some ⟨b, 0, none⟩) 1 cap] w fun e w' => e = .returned (.bool (inR lo hi [a])) ∧ w = w' :=
  within64 lo hi b 0 1 cap [a] w rfl (by omega) (fun j hj => by
    match j, hj with
    | 0, _ => simpa using hc)
theorem within2 (lo hi a a' : Int) (b cap : Nat) (w : World) (hc : w.cell? ⟨b, 0, none⟩ = some (.int .i64 a)) (hc' : w.cell? ⟨b, 1, none⟩ = some (.int .i64 a')) :
    Calls Tryd.prog 56 #[.int .i64 lo, .int .i64 hi, .slice (some ⟨b, 0, none⟩) 2 cap] w fun e w' => e = .returned (.bool (inR lo hi [a, a'])) ∧ w = w' :=
  within64 lo hi b 0 2 cap [a, a'] w rfl (by omega) (fun j hj => by
    match j, hj with
    | 0, _ => simpa using hc
    | 1, _ => simpa using hc')

end Go.Proofs.YtjghopepgfgebaaDoor
