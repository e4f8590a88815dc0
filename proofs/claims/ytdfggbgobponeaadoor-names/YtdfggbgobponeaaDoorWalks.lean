/-
  The walks over plain.all, plain.Different and coeditlaw.Names at the seat's translation.
-/
import Derived.Test.YtdfggbgobponeaaDoorRows
import Derived.WalkKit
import Derived.WalkSpells
import Derived.WalkLawsBesides
import Derived.LaidEql
namespace Go.Proofs.YtdfggbgobponeaaDoor
open Go.RowKit

/-- An error as the listed variables hold it: a pointer to an errorString. -/
abbrev er (a : Addr) : Value := .iface 27 (.pointer (some a))

set_option maxHeartbeats 400000 in
theorem all_any (a0 a1 a2 a3 a4 a5 a6 a7 a8 a9 a10 : Addr) (w : World)
    (h0 : w.cell? ⟨0, 0, none⟩ = some (er a0)) (h1 : w.cell? ⟨1, 0, none⟩ = some (er a1)) (h2 : w.cell? ⟨2, 0, none⟩ = some (er a2)) (h3 : w.cell? ⟨3, 0, none⟩ = some (er a3)) (h4 : w.cell? ⟨4, 0, none⟩ = some (er a4)) (h5 : w.cell? ⟨5, 0, none⟩ = some (er a5)) (h6 : w.cell? ⟨6, 0, none⟩ = some (er a6)) (h7 : w.cell? ⟨7, 0, none⟩ = some (er a7)) (h8 : w.cell? ⟨8, 0, none⟩ = some (er a8)) (h9 : w.cell? ⟨9, 0, none⟩ = some (er a9)) (h10 : w.cell? ⟨10, 0, none⟩ = some (er a10)) :
    Calls Tryd.prog 5 #[] w fun e w' => e = .returned (.slice (some ⟨w.heap.size, 0, none⟩) 11 11) ∧ w' = w.alloc (.cells #[er a0, er a1, er a2, er a3, er a4, er a5, er a6, er a7, er a8, er a9, er a10] 26) := by
  go_enter Tryd.func5, Tryd.ntmps5
  go_wp2_with fail
  go_ret
  exact ⟨rfl, rfl⟩

theorem Tryd.comp27 : (Tryd.prog.info? 27).map (·.comparable) = some true := by kernel_rfl
theorem Tryd.size45 : (Tryd.prog.info? 45).map (·.size) = some 1 := by kernel_rfl

/-- The eleven errors as the slice's block holds them. -/
abbrev row (A : Nat → Addr) : Array Value := #[er (A 0), er (A 1), er (A 2), er (A 3), er (A 4), er (A 5), er (A 6), er (A 7), er (A 8), er (A 9), er (A 10)]

theorem row_cell (A : Nat → Addr) (w : World) (k : Nat) (hk : k < 11) : (w.alloc (.cells (row A) 26)).cell? ⟨w.heap.size, k, none⟩ = some (er (A k)) := by
  have : k = 0 ∨ k = 1 ∨ k = 2 ∨ k = 3 ∨ k = 4 ∨ k = 5 ∨ k = 6 ∨ k = 7 ∨ k = 8 ∨ k = 9 ∨ k = 10 := by omega
  rcases this with rfl | rfl | rfl | rfl | rfl | rfl | rfl | rfl | rfl | rfl | rfl <;> exact World.cell?_alloc_at _ _ _ _ rfl

set_option maxHeartbeats 400000 in
theorem different_any (A : Nat → Addr) (w : World)
    (h0 : w.cell? ⟨0, 0, none⟩ = some (er (A 0))) (h1 : w.cell? ⟨1, 0, none⟩ = some (er (A 1))) (h2 : w.cell? ⟨2, 0, none⟩ = some (er (A 2))) (h3 : w.cell? ⟨3, 0, none⟩ = some (er (A 3))) (h4 : w.cell? ⟨4, 0, none⟩ = some (er (A 4))) (h5 : w.cell? ⟨5, 0, none⟩ = some (er (A 5))) (h6 : w.cell? ⟨6, 0, none⟩ = some (er (A 6))) (h7 : w.cell? ⟨7, 0, none⟩ = some (er (A 7))) (h8 : w.cell? ⟨8, 0, none⟩ = some (er (A 8))) (h9 : w.cell? ⟨9, 0, none⟩ = some (er (A 9))) (h10 : w.cell? ⟨10, 0, none⟩ = some (er (A 10)))
    (hne : ∀ i j, i < 11 → j < 11 → i ≠ j → A i ≠ A j) (hb : ∀ i, i < 11 → ∃ c t, w.heap[(A i).block]? = some (.cells c t (0, 0))) :
    Calls Tryd.prog 4 #[] w fun e w' => e = .returned (.bool true) ∧ w' = w.alloc (.cells (row A) 26) := by
  have Hne : Hid (∀ i j, i < 11 → j < 11 → i ≠ j → A i ≠ A j) := hne
  have Hb : Hid (∀ i, i < 11 → ∃ c t, w.heap[(A i).block]? = some (.cells c t (0, 0))) := hb
  clear hne hb
  go_enter Tryd.func4, Tryd.ntmps4
  go_wp2_with (go_at_call 5; refine (all_any _ _ _ _ _ _ _ _ _ _ _ _ h0 h1 h2 h3 h4 h5 h6 h7 h8 h9 h10).mono ?_; rintro e w' ⟨rfl, rfl⟩)
  have Hc : Hid (∀ k, k < 11 → (w.alloc (.cells (row A) 26)).cell? ⟨w.heap.size, k, none⟩ = some (er (A k))) := row_cell A w
  have Hd : Hid (∀ i, i < 11 → ∃ c t, (w.alloc (.cells (row A) 26)).heap[(A i).block]? = some (.cells c t (0, 0))) := fun i hi => by
    obtain ⟨c, t, h⟩ := Hb.out i hi
    refine ⟨c, t, ?_⟩
    have hlt : (A i).block < w.heap.size := by
      rcases Nat.lt_or_ge (A i).block w.heap.size with h' | h'
      · exact h'
      · simp [Array.getElem?_eq_none h'] at h
    show (w.heap.push _)[(A i).block]? = _
    simp only [Array.getElem?_push, Nat.ne_of_lt hlt, if_false]
    exact h
  clear h0 h1 h2 h3 h4 h5 h6 h7 h8 h9 h10 Hb
  generalize hw1 : w.alloc (.cells (row A) 26) = w1 at Hc Hd ⊢
  have Hw : Hid (w1 = w.alloc (.cells (row A) 26)) := hw1.symm
  clear hw1
  generalize w.heap.size = b at Hc ⊢
  obtain ⟨i27, hi27, hcmp⟩ := Option.map_eq_some_iff.1 Tryd.comp27
  obtain ⟨j45, hj45, hsz⟩ := Option.map_eq_some_iff.1 Tryd.size45
  have Hi27 : Hid (Tryd.prog.info? 27 = some i27 ∧ i27.comparable = true) := ⟨hi27, hcmp⟩
  have Hj45 : Hid (Tryd.prog.info? 45 = some j45 ∧ j45.size = 1) := ⟨hj45, hsz⟩
  clear hi27 hcmp hj45 hsz
  go_loop [8] (fun i => ∃ k : Nat, k ≤ 11 ∧ i = .int .i64 k) (fun i => 11 - (intOf i).toNat)
  case atStart => exact ⟨0, by omega, rfl⟩
  case round =>
    obtain ⟨k, hk, rfl⟩ := hrel
    by_cases hlt : k < 11
    · have hck := Hc.out k hlt
      go_wp2_with fail
      go_loop [4] (fun j => ∃ m : Nat, m ≤ k ∧ j = .int .i64 m) (fun j => k - (intOf j).toNat)
      case atStart => exact ⟨0, by omega, rfl⟩
      case round =>
        obtain ⟨m, hm, rfl⟩ := hrel
        by_cases hmk : m < k
        · have hcm := Hc.out m (by omega)
          have hq : (binOp .eql 26 (er (A m)) (er (A k))).run Tryd.prog w1 = .ok (.bool false) w1 := by
            obtain ⟨c0, t0, hb0⟩ := Hd.out m (by omega)
            obtain ⟨c1, t1, hb1⟩ := Hd.out k (by omega)
            exact run_eql_iface_ptr_other w1 Tryd.underlying26 Tryd.underlying27 Hi27.out.1 Hi27.out.2 Hj45.out.1 (by rw [Hj45.out.2]; decide) (Hne.out m k (by omega) (by omega) (by omega)) hb0 hb1
          go_wp2
          go_round
          case rel => exact ⟨m + 1, by omega, by go_num⟩
          case measure => simp [intOf]; omega
        · have : m = k := by omega
          subst this
          go_wp2
          go_round
          case rel => exact ⟨m + 1, by omega, by go_num⟩
          case measure => simp [intOf]; omega
    · have : k = 11 := by omega
      subst this
      go_wp2
      go_ret
      exact ⟨rfl, Hw.out⟩

set_option maxHeartbeats 400000 in
theorem names_any (A : Nat → Addr) (w : World)
    (h0 : w.cell? ⟨0, 0, none⟩ = some (er (A 0))) (h1 : w.cell? ⟨1, 0, none⟩ = some (er (A 1))) (h2 : w.cell? ⟨2, 0, none⟩ = some (er (A 2))) (h3 : w.cell? ⟨3, 0, none⟩ = some (er (A 3))) (h4 : w.cell? ⟨4, 0, none⟩ = some (er (A 4))) (h5 : w.cell? ⟨5, 0, none⟩ = some (er (A 5))) (h6 : w.cell? ⟨6, 0, none⟩ = some (er (A 6))) (h7 : w.cell? ⟨7, 0, none⟩ = some (er (A 7))) (h8 : w.cell? ⟨8, 0, none⟩ = some (er (A 8))) (h9 : w.cell? ⟨9, 0, none⟩ = some (er (A 9))) (h10 : w.cell? ⟨10, 0, none⟩ = some (er (A 10)))
    (hne : ∀ i j, i < 11 → j < 11 → i ≠ j → A i ≠ A j) (hb : ∀ i, i < 11 → ∃ c t, w.heap[(A i).block]? = some (.cells c t (0, 0))) :
    Calls Tryd.prog 3 #[] w fun e w' => e = .returned (.bool true) ∧ w' = w.alloc (.cells (row A) 26) := by
  have hd := different_any A w h0 h1 h2 h3 h4 h5 h6 h7 h8 h9 h10 hne hb
  have Hd : Hid (Calls Tryd.prog 4 #[] w fun e w' => e = .returned (.bool true) ∧ w' = w.alloc (.cells (row A) 26)) := hd
  clear hd hne hb h0 h1 h2 h3 h4 h5 h6 h7 h8 h9 h10
  go_enter Tryd.func3, Tryd.ntmps3
  go_wp2_with (go_at_call 4; refine Hd.out.mono ?_; rintro e w' ⟨rfl, rfl⟩)
  go_ret
  exact ⟨rfl, rfl⟩

end Go.Proofs.YtdfggbgobponeaaDoor
