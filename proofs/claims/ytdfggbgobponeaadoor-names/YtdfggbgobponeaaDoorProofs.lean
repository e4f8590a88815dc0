/-
  Names proved: from the listed variables to eleven different pointers; the row; the tied card.
-/
import Derived.Test.YtdfggbgobponeaaDoorRows
import Derived.Test.YtdfggbgobponeaaDoorWalks
import Derived.Test.YtdfggbgobponeaaDoorCards
import Derived.Test.YtdfggbgobponeaaDoorTie
import Derived.ProofKit
import Derived.LaidMore
import Derived.LaidLaws
import Derived.OpenShut
import Derived.SevenTiedAt
import Derived.Stop.Joined
namespace Go.Proofs.YtdfggbgobponeaaDoor
open Go.ChangeShapes Go.WideShapes Go.ChangeAt Go.RowKit

theorem own : ownKnob Tryd.prog.godebug = none := by kernel_rfl
theorem g0 : Tryd.prog.globalNamed "coedit/coedit.ErrShape" = some 0 := by kernel_rfl
theorem t0 : (Tryd.prog.globals[0]?).map (·.type) = some 26 := by kernel_rfl
theorem g1 : Tryd.prog.globalNamed "coedit/coedit.ErrClient" = some 1 := by kernel_rfl
theorem t1 : (Tryd.prog.globals[1]?).map (·.type) = some 26 := by kernel_rfl
theorem g2 : Tryd.prog.globalNamed "coedit/coedit.ErrRune" = some 2 := by kernel_rfl
theorem t2 : (Tryd.prog.globals[2]?).map (·.type) = some 26 := by kernel_rfl
theorem g3 : Tryd.prog.globalNamed "coedit/coedit.ErrRange" = some 3 := by kernel_rfl
theorem t3 : (Tryd.prog.globals[3]?).map (·.type) = some 26 := by kernel_rfl
theorem g4 : Tryd.prog.globalNamed "coedit/coedit.ErrFull" = some 4 := by kernel_rfl
theorem t4 : (Tryd.prog.globals[4]?).map (·.type) = some 26 := by kernel_rfl
theorem g5 : Tryd.prog.globalNamed "coedit/coedit.ErrMany" = some 5 := by kernel_rfl
theorem t5 : (Tryd.prog.globals[5]?).map (·.type) = some 26 := by kernel_rfl
theorem g6 : Tryd.prog.globalNamed "coedit/coedit.ErrEmpty" = some 6 := by kernel_rfl
theorem t6 : (Tryd.prog.globals[6]?).map (·.type) = some 26 := by kernel_rfl
theorem g7 : Tryd.prog.globalNamed "coedit/coedit.ErrFrame" = some 7 := by kernel_rfl
theorem t7 : (Tryd.prog.globals[7]?).map (·.type) = some 26 := by kernel_rfl
theorem g8 : Tryd.prog.globalNamed "coedit/coedit.ErrOrder" = some 8 := by kernel_rfl
theorem t8 : (Tryd.prog.globals[8]?).map (·.type) = some 26 := by kernel_rfl
theorem g9 : Tryd.prog.globalNamed "coedit/coedit.ErrAck" = some 9 := by kernel_rfl
theorem t9 : (Tryd.prog.globals[9]?).map (·.type) = some 26 := by kernel_rfl
theorem g10 : Tryd.prog.globalNamed "coedit/coedit.ErrStopped" = some 10 := by kernel_rfl
theorem t10 : (Tryd.prog.globals[10]?).map (·.type) = some 26 := by kernel_rfl
theorem cells45 : Tryd.prog.cellsOf 45 = 1 := by kernel_rfl
theorem cells9 : Tryd.prog.cellsOf 9 = 1 := by kernel_rfl
theorem star : "*" ++ "errors.errorString" = "*errors.errorString" := by decide
theorem row27 (u : TypeId) (h : Tryd.prog.typeName? 3 u = some "*errors.errorString") : u = 27 :=
  typeName_ptr_named (nm := "errors.errorString") (by rw [star]; kernel_rfl) (by kernel_rfl) (by decide) u (by rw [star]; exact h)

/-- The door's own heap meets the condition. -/
theorem door_met (os : Os) (args : Array Value) : laidMetH Tryd.prog Rows.namesRow.laid ((World.doorLaid Tryd.prog 400 os).forCall (fun _ _ => 0) ⟨#[], args, []⟩).memory :=
  laidMetH_of_parts3 (fuel := 8) (laidMet_of_run' 8 (by kernel_rfl) (by kernel_rfl)) (by kernel_rfl) (by kernel_rfl)

def at11 (l : List Addr) (k : Nat) : Addr := l.getD k ⟨0, 0, none⟩
theorem at11_ne (l : List Addr) (hl : l.length = 11) (hnd : (l.map fun a => MemPlace.cell a.block a.off).Nodup) (i j : Nat) (hi : i < 11) (hj : j < 11) (hij : i ≠ j) : at11 l i ≠ at11 l j := by
  have e1 : at11 l i = l[i] := by simp [at11, List.getD_eq_getElem?_getD, hl, hi]
  have e2 : at11 l j = l[j] := by simp [at11, List.getD_eq_getElem?_getD, hl, hj]
  rw [e1, e2]
  have h := List.pairwise_iff_getElem.1 hnd
  intro e
  rcases Nat.lt_or_gt_of_ne hij with hlt | hlt
  · exact h i j (by simp; omega) (by simp; omega) hlt (by simp [e])
  · exact h j i (by simp; omega) (by simp; omega) hlt (by simp [e])

set_option maxRecDepth 100000 in
theorem of_laid {W : World} (h : laidMetH Tryd.prog Rows.namesRow.laid W) : ∃ L : Nat → Addr,
    W.cell? ⟨0, 0, none⟩ = some (er (L 0)) ∧ W.cell? ⟨1, 0, none⟩ = some (er (L 1)) ∧ W.cell? ⟨2, 0, none⟩ = some (er (L 2)) ∧ W.cell? ⟨3, 0, none⟩ = some (er (L 3)) ∧ W.cell? ⟨4, 0, none⟩ = some (er (L 4)) ∧ W.cell? ⟨5, 0, none⟩ = some (er (L 5)) ∧ W.cell? ⟨6, 0, none⟩ = some (er (L 6)) ∧ W.cell? ⟨7, 0, none⟩ = some (er (L 7)) ∧ W.cell? ⟨8, 0, none⟩ = some (er (L 8)) ∧ W.cell? ⟨9, 0, none⟩ = some (er (L 9)) ∧ W.cell? ⟨10, 0, none⟩ = some (er (L 10)) ∧
    (∀ i j, i < 11 → j < 11 → i ≠ j → L i ≠ L j) ∧ (∀ i, i < 11 → ∃ c t, W.heap[(L i).block]? = some (.cells c t (0, 0))) := by
  rw [MakeChecks.laidMetH_plain _ _ _ (by kernel_rfl)] at h
  obtain ⟨ps, ⟨g0, t0, cs0, f0, p0, q0, hg0, ht0, hv0, hd0, ⟨g1, t1, cs1, f1, p1, q1, hg1, ht1, hv1, hd1, ⟨g2, t2, cs2, f2, p2, q2, hg2, ht2, hv2, hd2, ⟨g3, t3, cs3, f3, p3, q3, hg3, ht3, hv3, hd3, ⟨g4, t4, cs4, f4, p4, q4, hg4, ht4, hv4, hd4, ⟨g5, t5, cs5, f5, p5, q5, hg5, ht5, hv5, hd5, ⟨g6, t6, cs6, f6, p6, q6, hg6, ht6, hv6, hd6, ⟨g7, t7, cs7, f7, p7, q7, hg7, ht7, hv7, hd7, ⟨g8, t8, cs8, f8, p8, q8, hg8, ht8, hv8, hd8, ⟨g9, t9, cs9, f9, p9, q9, hg9, ht9, hv9, hd9, ⟨g10, t10, cs10, f10, p10, q10, hg10, ht10, hv10, hd10, hq10, e10⟩, e9⟩, e8⟩, e7⟩, e6⟩, e5⟩, e4⟩, e3⟩, e2⟩, e1⟩, e0⟩, hnd, hrows⟩ := h
  obtain rfl := Option.some.inj (Go.Proofs.YtdfggbgobponeaaDoor.g0.symm.trans hg0)
  obtain rfl := Option.some.inj (Go.Proofs.YtdfggbgobponeaaDoor.t0.symm.trans ht0)
  obtain rfl := Option.some.inj (Go.Proofs.YtdfggbgobponeaaDoor.g1.symm.trans hg1)
  obtain rfl := Option.some.inj (Go.Proofs.YtdfggbgobponeaaDoor.t1.symm.trans ht1)
  obtain rfl := Option.some.inj (Go.Proofs.YtdfggbgobponeaaDoor.g2.symm.trans hg2)
  obtain rfl := Option.some.inj (Go.Proofs.YtdfggbgobponeaaDoor.t2.symm.trans ht2)
  obtain rfl := Option.some.inj (Go.Proofs.YtdfggbgobponeaaDoor.g3.symm.trans hg3)
  obtain rfl := Option.some.inj (Go.Proofs.YtdfggbgobponeaaDoor.t3.symm.trans ht3)
  obtain rfl := Option.some.inj (Go.Proofs.YtdfggbgobponeaaDoor.g4.symm.trans hg4)
  obtain rfl := Option.some.inj (Go.Proofs.YtdfggbgobponeaaDoor.t4.symm.trans ht4)
  obtain rfl := Option.some.inj (Go.Proofs.YtdfggbgobponeaaDoor.g5.symm.trans hg5)
  obtain rfl := Option.some.inj (Go.Proofs.YtdfggbgobponeaaDoor.t5.symm.trans ht5)
  obtain rfl := Option.some.inj (Go.Proofs.YtdfggbgobponeaaDoor.g6.symm.trans hg6)
  obtain rfl := Option.some.inj (Go.Proofs.YtdfggbgobponeaaDoor.t6.symm.trans ht6)
  obtain rfl := Option.some.inj (Go.Proofs.YtdfggbgobponeaaDoor.g7.symm.trans hg7)
  obtain rfl := Option.some.inj (Go.Proofs.YtdfggbgobponeaaDoor.t7.symm.trans ht7)
  obtain rfl := Option.some.inj (Go.Proofs.YtdfggbgobponeaaDoor.g8.symm.trans hg8)
  obtain rfl := Option.some.inj (Go.Proofs.YtdfggbgobponeaaDoor.t8.symm.trans ht8)
  obtain rfl := Option.some.inj (Go.Proofs.YtdfggbgobponeaaDoor.g9.symm.trans hg9)
  obtain rfl := Option.some.inj (Go.Proofs.YtdfggbgobponeaaDoor.t9.symm.trans ht9)
  obtain rfl := Option.some.inj (Go.Proofs.YtdfggbgobponeaaDoor.g10.symm.trans hg10)
  obtain rfl := Option.some.inj (Go.Proofs.YtdfggbgobponeaaDoor.t10.symm.trans ht10)
  have hq10' : q10 = [] := hq10
  subst hq10'
  subst e10
  subst e9
  subst e8
  subst e7
  subst e6
  subst e5
  subst e4
  subst e3
  subst e2
  subst e1
  subst e0
  obtain ⟨l0⟩ := cs0
  obtain ⟨l1⟩ := cs1
  obtain ⟨l2⟩ := cs2
  obtain ⟨l3⟩ := cs3
  obtain ⟨l4⟩ := cs4
  obtain ⟨l5⟩ := cs5
  obtain ⟨l6⟩ := cs6
  obtain ⟨l7⟩ := cs7
  obtain ⟨l8⟩ := cs8
  obtain ⟨l9⟩ := cs9
  obtain ⟨l10⟩ := cs10
  have ok0 : ∀ u v, l0 = [.iface u v] → Value.okWide Tryd.prog W .any 0 u v := fun u v e => by
    subst e
    exact (hrows 0 0 (by simp [MemPlace.row])).2 u v (by simpa using World.var?_cell hg0 hv0 0)
  have ok1 : ∀ u v, l1 = [.iface u v] → Value.okWide Tryd.prog W .any 0 u v := fun u v e => by
    subst e
    exact (hrows 1 0 (by simp [MemPlace.row])).2 u v (by simpa using World.var?_cell hg1 hv1 0)
  have ok2 : ∀ u v, l2 = [.iface u v] → Value.okWide Tryd.prog W .any 0 u v := fun u v e => by
    subst e
    exact (hrows 2 0 (by simp [MemPlace.row])).2 u v (by simpa using World.var?_cell hg2 hv2 0)
  have ok3 : ∀ u v, l3 = [.iface u v] → Value.okWide Tryd.prog W .any 0 u v := fun u v e => by
    subst e
    exact (hrows 3 0 (by simp [MemPlace.row])).2 u v (by simpa using World.var?_cell hg3 hv3 0)
  have ok4 : ∀ u v, l4 = [.iface u v] → Value.okWide Tryd.prog W .any 0 u v := fun u v e => by
    subst e
    exact (hrows 4 0 (by simp [MemPlace.row])).2 u v (by simpa using World.var?_cell hg4 hv4 0)
  have ok5 : ∀ u v, l5 = [.iface u v] → Value.okWide Tryd.prog W .any 0 u v := fun u v e => by
    subst e
    exact (hrows 5 0 (by simp [MemPlace.row])).2 u v (by simpa using World.var?_cell hg5 hv5 0)
  have ok6 : ∀ u v, l6 = [.iface u v] → Value.okWide Tryd.prog W .any 0 u v := fun u v e => by
    subst e
    exact (hrows 6 0 (by simp [MemPlace.row])).2 u v (by simpa using World.var?_cell hg6 hv6 0)
  have ok7 : ∀ u v, l7 = [.iface u v] → Value.okWide Tryd.prog W .any 0 u v := fun u v e => by
    subst e
    exact (hrows 7 0 (by simp [MemPlace.row])).2 u v (by simpa using World.var?_cell hg7 hv7 0)
  have ok8 : ∀ u v, l8 = [.iface u v] → Value.okWide Tryd.prog W .any 0 u v := fun u v e => by
    subst e
    exact (hrows 8 0 (by simp [MemPlace.row])).2 u v (by simpa using World.var?_cell hg8 hv8 0)
  have ok9 : ∀ u v, l9 = [.iface u v] → Value.okWide Tryd.prog W .any 0 u v := fun u v e => by
    subst e
    exact (hrows 9 0 (by simp [MemPlace.row])).2 u v (by simpa using World.var?_cell hg9 hv9 0)
  have ok10 : ∀ u v, l10 = [.iface u v] → Value.okWide Tryd.prog W .any 0 u v := fun u v e => by
    subst e
    exact (hrows 10 0 (by simp [MemPlace.row])).2 u v (by simpa using World.var?_cell hg10 hv10 0)
  obtain ⟨a0, s0, rfl, hc0, hs0, hz0, rfl⟩ := errorString_of_trod Tryd.underlying26 row27 Tryd.underlying27 Tryd.underlying45 rfl rfl Tryd.underlying9 cells45 cells9 hd0 ok0
  obtain ⟨a1, s1, rfl, hc1, hs1, hz1, rfl⟩ := errorString_of_trod Tryd.underlying26 row27 Tryd.underlying27 Tryd.underlying45 rfl rfl Tryd.underlying9 cells45 cells9 hd1 ok1
  obtain ⟨a2, s2, rfl, hc2, hs2, hz2, rfl⟩ := errorString_of_trod Tryd.underlying26 row27 Tryd.underlying27 Tryd.underlying45 rfl rfl Tryd.underlying9 cells45 cells9 hd2 ok2
  obtain ⟨a3, s3, rfl, hc3, hs3, hz3, rfl⟩ := errorString_of_trod Tryd.underlying26 row27 Tryd.underlying27 Tryd.underlying45 rfl rfl Tryd.underlying9 cells45 cells9 hd3 ok3
  obtain ⟨a4, s4, rfl, hc4, hs4, hz4, rfl⟩ := errorString_of_trod Tryd.underlying26 row27 Tryd.underlying27 Tryd.underlying45 rfl rfl Tryd.underlying9 cells45 cells9 hd4 ok4
  obtain ⟨a5, s5, rfl, hc5, hs5, hz5, rfl⟩ := errorString_of_trod Tryd.underlying26 row27 Tryd.underlying27 Tryd.underlying45 rfl rfl Tryd.underlying9 cells45 cells9 hd5 ok5
  obtain ⟨a6, s6, rfl, hc6, hs6, hz6, rfl⟩ := errorString_of_trod Tryd.underlying26 row27 Tryd.underlying27 Tryd.underlying45 rfl rfl Tryd.underlying9 cells45 cells9 hd6 ok6
  obtain ⟨a7, s7, rfl, hc7, hs7, hz7, rfl⟩ := errorString_of_trod Tryd.underlying26 row27 Tryd.underlying27 Tryd.underlying45 rfl rfl Tryd.underlying9 cells45 cells9 hd7 ok7
  obtain ⟨a8, s8, rfl, hc8, hs8, hz8, rfl⟩ := errorString_of_trod Tryd.underlying26 row27 Tryd.underlying27 Tryd.underlying45 rfl rfl Tryd.underlying9 cells45 cells9 hd8 ok8
  obtain ⟨a9, s9, rfl, hc9, hs9, hz9, rfl⟩ := errorString_of_trod Tryd.underlying26 row27 Tryd.underlying27 Tryd.underlying45 rfl rfl Tryd.underlying9 cells45 cells9 hd9 ok9
  obtain ⟨a10, s10, rfl, hc10, hs10, hz10, rfl⟩ := errorString_of_trod Tryd.underlying26 row27 Tryd.underlying27 Tryd.underlying45 rfl rfl Tryd.underlying9 cells45 cells9 hd10 ok10
  have hsub : ([a0, a1, a2, a3, a4, a5, a6, a7, a8, a9, a10].map fun a => MemPlace.cell a.block a.off).Nodup := by
    refine hnd.sublist ?_
    simp only [List.map_cons, List.map_nil, MemPlace.row]
    repeat (first | exact List.Sublist.slnil | apply List.Sublist.cons_cons | apply List.Sublist.cons)
  refine ⟨at11 [a0, a1, a2, a3, a4, a5, a6, a7, a8, a9, a10], ?_, ?_, ?_, ?_, ?_, ?_, ?_, ?_, ?_, ?_, ?_, at11_ne _ rfl hsub, ?_⟩
  · show W.cell? ⟨0, 0, none⟩ = some (er a0)
    simpa using World.var?_cell hg0 hv0 0
  · show W.cell? ⟨1, 0, none⟩ = some (er a1)
    simpa using World.var?_cell hg1 hv1 0
  · show W.cell? ⟨2, 0, none⟩ = some (er a2)
    simpa using World.var?_cell hg2 hv2 0
  · show W.cell? ⟨3, 0, none⟩ = some (er a3)
    simpa using World.var?_cell hg3 hv3 0
  · show W.cell? ⟨4, 0, none⟩ = some (er a4)
    simpa using World.var?_cell hg4 hv4 0
  · show W.cell? ⟨5, 0, none⟩ = some (er a5)
    simpa using World.var?_cell hg5 hv5 0
  · show W.cell? ⟨6, 0, none⟩ = some (er a6)
    simpa using World.var?_cell hg6 hv6 0
  · show W.cell? ⟨7, 0, none⟩ = some (er a7)
    simpa using World.var?_cell hg7 hv7 0
  · show W.cell? ⟨8, 0, none⟩ = some (er a8)
    simpa using World.var?_cell hg8 hv8 0
  · show W.cell? ⟨9, 0, none⟩ = some (er a9)
    simpa using World.var?_cell hg9 hv9 0
  · show W.cell? ⟨10, 0, none⟩ = some (er a10)
    simpa using World.var?_cell hg10 hv10 0
  · intro i hi
    have : i = 0 ∨ i = 1 ∨ i = 2 ∨ i = 3 ∨ i = 4 ∨ i = 5 ∨ i = 6 ∨ i = 7 ∨ i = 8 ∨ i = 9 ∨ i = 10 := by omega
    rcases this with rfl | rfl | rfl | rfl | rfl | rfl | rfl | rfl | rfl | rfl | rfl
    · exact (hrows a0.block a0.off (by simp [MemPlace.row])).1
    · exact (hrows a1.block a1.off (by simp [MemPlace.row])).1
    · exact (hrows a2.block a2.off (by simp [MemPlace.row])).1
    · exact (hrows a3.block a3.off (by simp [MemPlace.row])).1
    · exact (hrows a4.block a4.off (by simp [MemPlace.row])).1
    · exact (hrows a5.block a5.off (by simp [MemPlace.row])).1
    · exact (hrows a6.block a6.off (by simp [MemPlace.row])).1
    · exact (hrows a7.block a7.off (by simp [MemPlace.row])).1
    · exact (hrows a8.block a8.off (by simp [MemPlace.row])).1
    · exact (hrows a9.block a9.off (by simp [MemPlace.row])).1
    · exact (hrows a10.block a10.off (by simp [MemPlace.row])).1

set_option maxRecDepth 100000 in
theorem names_lifted (os : Os) (started : os.Started) (H : Type) (enc : TypeId × Value → H) :
    ReturnsInHanded {} Tryd.checked os 3 .any (fun w args => (Rows.namesSpec.pre enc Tryd.prog Tryd.f3 [] false w args ∧ laidMetH Tryd.prog Rows.namesRow.laid w) ∧ sizedMet enc Tryd.prog Tryd.f3 (OpenSpec.ofChange Rows.namesSpec) false w args)
      (Rows.namesSpec.post enc Tryd.prog Tryd.f3 false true false false) := by
  refine returnsInHanded_of_change_and (C := Tryd.checked) (X := fun w _ => laidMetH Tryd.prog Rows.namesRow.laid w) (fun _ _ _ hh h => h.of_heap hh) own started (by kernel_rfl) Tryd.func3
    (ChangeSpec.witness_shaped (enc := enc) (C := Tryd.checked) (os := os) (X := fun w _ => laidMetH Tryd.prog Rows.namesRow.laid w) false (World.doorLaid Tryd.prog 400 os) #[] 8 rfl (World.shaped_of_RefB (by kernel_rfl) (by kernel_rfl)) (by kernel_rfl) (by kernel_rfl) (by kernel_rfl) (door_met os _)) ?_
  intro W base args ds gs before hval0 hW _ _ hL _
  have hW' := hW
  obtain ⟨p, q, hA0, hV, rfl, hfz, hnd⟩ := hW
  have hA : DataW.TrodAll enc Tryd.prog W 0 (fun _ => true) true Tryd.f3.params.toList args.toList ds p := hA0
  rw [Tryd.params3] at hA
  have hA' : DataW.TrodAll enc Tryd.prog W 0 (fun _ => true) true [] args.toList ds p := hA
  obtain ⟨ha, rfl, rfl⟩ := trodAll_nil hA'
  obtain ⟨rfl, rfl⟩ := trodVars_none hV
  obtain rfl : args = #[] := by simpa using ha
  obtain ⟨L, h0, h1, h2, h3, h4, h5, h6, h7, h8, h9, h10, hne, hb⟩ := of_laid hL
  refine (names_any L W h0 h1 h2 h3 h4 h5 h6 h7 h8 h9 h10 hne hb).mono fun e W' ⟨he, hw⟩ => ?_
  subst he; subst hw
  refine ⟨_, rfl, _, _, _, [], [], [], hW', ?_, ?_, ?_, World.keptBut_alloc _ _ _, fun h => by cases h⟩
  · exact trodAll_mk1 (shut_bool Tryd.underlying4 true)
  · exact trodAll_mk0
  · rfl

theorem names_row_holds : Rows.NamesSaid :=
  OpenClaim.holds_of_wide 3 Tryd.f3 rfl rfl rfl rfl rfl rfl rfl ⟨rfl, rfl, rfl, rfl, rfl⟩ rfl rfl rfl rfl rfl (by kernel_rfl) Tryd.func3 (by kernel_rfl)
    (of_decide_eq_true (by kernel_rfl)) (by unfold Func.isWrapper; rw [if_neg (of_decide_eq_false (by kernel_rfl))]; exact ⟨rfl, rfl⟩)
    (fun os started H enc _ => names_lifted os started H enc)

/-- The tied card. -/
theorem names_holds : Rows.NamesCardSaid :=
  Claim7.holds_tied_plain_at .later [] [.sentinel, .sentinel, .sentinel, .sentinel, .sentinel, .sentinel, .sentinel, .sentinel, .sentinel, .sentinel, .sentinel] true (true, "1603c3ab29251a588c90b097ae0c7fb0b850a0e4c17d5b781fbf971010b7bd20") true
    names_row_holds (fun _ h => by cases h) (by kernel_rfl) (fun _ h => by cases h) names_row_tie rfl ⟨rfl, rfl⟩ (by kernel_rfl) rfl
    (fun f fn hf hfn => by
      obtain rfl : f = 3 := Option.some.inj ((show Tryd.prog.funcNamed "coedit/coeditlaw.Names" = some 3 by kernel_rfl).symm.trans hf) |>.symm
      obtain rfl : fn = Tryd.f3 := (Option.some.inj (Tryd.func3.symm.trans hfn)).symm
      exact ⟨by kernel_rfl, fun j t ht => by
        rw [Tryd.params3] at ht
        simp at ht⟩)
    (by kernel_rfl)
#print axioms names_holds
end Go.Proofs.YtdfggbgobponeaaDoor
