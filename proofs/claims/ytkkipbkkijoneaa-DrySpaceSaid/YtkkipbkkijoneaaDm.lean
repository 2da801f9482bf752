/- Siphons and traps: contracts. -/
import Derived.Test.YtkkipbkkijoneaaDl
set_option linter.unusedVariables false
set_option linter.unusedSimpArgs false
namespace Go.Proofs.Ytkkipbkkijoneaa
open Go.Sx Go.RowKit

theorem arr_112 : arrOf Try.prog 112 = some (2, 111, 2) := by kernel_rfl
def swS (s : St) : St := ⟨s.g, s.t⟩
/-- The steps, seen by a kind of sets: 0 siphons, 1 traps. -/
def kS (kd : Nat) (s : St) : St := if kd = 0 then s else swS s
def touB (l T : List Int) : Bool := T.any fun q => decide (0 < l.getD q.toNat 0)
def brk (s : St) (T : List Int) : Bool := touB s.g T && !touB s.t T
def sipB (ss : List St) (T : List Int) : Bool := !ss.any fun s => brk s T
def Sip (ss : List St) (T : List Int) : Prop := ∀ s ∈ ss, touB s.g T = true → touB s.t T = true
theorem sip_iff {ss : List St} {T : List Int} : sipB ss T = true ↔ Sip ss T := by
  unfold sipB Sip brk
  rw [Bool.not_eq_true', List.any_eq_false]
  constructor
  · intro h s hs hg
    have := h s hs
    rw [hg, Bool.true_and] at this
    simpa using this
  · intro h s hs hb
    rw [Bool.and_eq_true] at hb
    have := h s hs hb.1
    rw [this] at hb
    exact absurd hb.2 (by decide)
/-- A set of places. -/
def Plc (n : Int) (xs : List Int) : Prop := ∀ j, j < xs.length → (0 ≤ xs.getD j 0 ∧ xs.getD j 0 ≤ n - 1) ∧ (0 < j → xs.getD (j - 1) 0 < xs.getD j 0)
open Classical in
noncomputable def setI (n : Int) (ss : List St) (xs : List Int) : Int := if validI n ss ≠ 0 then validI n ss else if Plc n xs then 0 else 1
theorem set_v {n : Int} {ss : List St} {xs : List Int} (h : validI n ss ≠ 0) : setI n ss xs = validI n ss := if_pos h
theorem set_1 {n : Int} {ss : List St} {xs : List Int} (h : ¬ validI n ss ≠ 0) (h2 : ¬ Plc n xs) : setI n ss xs = 1 := by unfold setI; rw [if_neg h, if_neg h2]
theorem set_0 {n : Int} {ss : List St} {xs : List Int} (h : ¬ validI n ss ≠ 0) (h2 : Plc n xs) : setI n ss xs = 0 := by unfold setI; rw [if_neg h, if_pos h2]
theorem set_of {n : Int} {ss : List St} {xs : List Int} (h : ¬ setI n ss xs ≠ 0) : VY n ss ∧ Plc n xs := by
  have h0 := Decidable.of_not_not h
  by_cases h1 : validI n ss ≠ 0
  · rw [set_v h1] at h0; exact absurd h0 h1
  · by_cases h2 : Plc n xs
    · exact ⟨vy_of h1, h2⟩
    · rw [set_1 h1 h2] at h0; cases h0
/-- Numbers of places. -/
def InP (n : Int) (xs : List Int) : Prop := ∀ x ∈ xs, 0 ≤ x ∧ x < n
theorem Plc.inp {n : Int} {xs : List Int} (h : Plc n xs) : InP n xs := fun x hx => by
  obtain ⟨j, hj, rfl⟩ := List.getElem_of_mem hx
  have := (h j hj).1
  rw [List.getD_eq_getElem?_getD, List.getElem?_eq_getElem hj] at this
  simp only [Option.getD_some] at this
  omega
noncomputable def kindR (kd : Nat) (n : Int) (ss : List St) (xs : List Int) : Bool × Int := if setI n ss xs ≠ 0 then (false, setI n ss xs) else (sipB (ss.map (kS kd)) xs, 0)
theorem kind_1 {kd : Nat} {n : Int} {ss : List St} {xs : List Int} (h : setI n ss xs ≠ 0) : kindR kd n ss xs = (false, setI n ss xs) := if_pos h
theorem kind_0 {kd : Nat} {n : Int} {ss : List St} {xs : List Int} (h : ¬ setI n ss xs ≠ 0) : kindR kd n ss xs = (sipB (ss.map (kS kd)) xs, 0) := if_neg h
theorem sip_map (kd : Nat) (ss : List St) (T : List Int) : sipB (ss.map (kS kd)) T = !ss.any fun s => brk (kS kd s) T := by
  unfold sipB
  rw [List.any_map]
  rfl
theorem kS_t {n : Int} {ss : List St} (hV : VY n ss) (kd : Nat) {k : Nat} (hk : k < ss.length) : (((kS kd (ss.getD k default)).t.length : Nat) : Int) = n ∧ (((kS kd (ss.getD k default)).g.length : Nat) : Int) = n := by
  have := hV.tl hk
  unfold kS swS
  split
  · exact this
  · exact ⟨this.2, this.1⟩
theorem fst_neg {α : Type} [Inhabited α] {φ : α → Bool} {xs : List α} {i : Int} (h : Fst φ xs i) : (!xs.any φ) = decide (i < 0) := by
  rw [fst_any h, ← decide_not]
  congr 1
  rw [eq_iff_iff]
  omega
theorem IntsAt.in' {w : World} {p : Option Addr} {xs : List Int} (h : IntsAt w p xs) {i : Int} {n : Int} (hl : (xs.length : Int) = n) (hi : 0 ≤ i ∧ i < n) : ∃ q, p = some q ∧ w.cell? (q.add (i.toNat * 1)) = some (.int .i64 (xs.getD i.toNat 0)) := h i.toNat (by omega)
theorem tou_yes {l T : List Int} {k : Nat} (hk : k < T.length) (h : 0 < l.getD (T.getD k 0).toNat 0) : touB l T = true := any_yes (d := 0) hk (decide_eq_true h)
theorem tou_no {l T : List Int} (h : ∀ k, k < T.length → ¬ 0 < l.getD (T.getD k 0).toNat 0) : touB l T = false := any_no (d := 0) fun k hk => decide_eq_false (h k hk)
theorem InP.at {n : Int} {xs : List Int} (h : InP n xs) {k : Nat} (hk : k < xs.length) : 0 ≤ xs.getD k 0 ∧ xs.getD k 0 < n := h _ (getD_mem hk)
theorem brk_and {s : St} {T : List Int} {b : Bool} (h : touB s.t T = b) (h2 : touB s.g T = true) : brk s T = !b := by unfold brk; rw [h2, h, Bool.true_and]
theorem brk_no {s : St} {T : List Int} (h2 : touB s.g T = false) : brk s T = false := by unfold brk; rw [h2, Bool.false_and]
theorem plc_within {n : Int} {xs : List Int} (h : (xs.all fun x => wiB x 0 (n - 1)) = true) {j : Nat} (hj : j < xs.length) : 0 ≤ xs.getD j 0 ∧ xs.getD j 0 ≤ n - 1 := of_decide_eq_true (all_at' (f := fun x => wiB x 0 (n - 1)) (d := (0 : Int)) h hj)
theorem plc_not {n : Int} {xs : List Int} (h : ¬ (xs.all fun x => wiB x 0 (n - 1)) = true) : ¬ Plc n xs := fun h2 => h (all_yes (f := fun x => wiB x 0 (n - 1)) (d := (0 : Int)) fun k hk => decide_eq_true (h2 k hk).1)


set_option maxRecDepth 100000 in
theorem kinds117_ok (w0 : World) (p1 p2 : Option Addr) (c1 c2 : Nat) (s : St) :
    Calls Try.prog 117 #[sv p1 s.t.length c1 p2 s.g.length c2] w0 (Post (X := Unit) (fun _ => .slice p1 s.t.length c1) (fun _ => True) (fun _ => []) w0) := by
  refine calls Try.func117 rfl (n := 5) rfl (by simp) ?_
  refine TC.seq ?_
  refine TC.region ?_
  refine TL.box rfl rfl (by decide) (fun b0 hb0 => ?_)
  refine TL.pure (PV.assign rfl) rfl (by decide) ?_
  refine TL.nil ?_
  refine TQ.thenC ?_
  refine TC.seq ?_
  refine TC.region ?_
  refine TL.pure (PV.fieldAddr rfl Tb.fo_63_0) rfl (by decide) ?_
  refine TL.pure (PV.load rfl Tb.one_25 (by repeat (first | exact List.Mem.head _ | refine List.Mem.tail _ ?_ | refine List.mem_append_right _ ?_)) rfl) rfl (by decide) ?_
  refine TL.pure (PV.assign rfl) rfl (by decide) ?_
  refine TL.nil ?_
  refine TQ.thenC ?_
  refine TC.ret ?_
  refine TQ.retE1 rfl rfl ?_
  exact ⟨(), rfl, trivial, List.nil_sublist _⟩

set_option maxRecDepth 100000 in
theorem kinds118_ok (w0 : World) (p1 p2 : Option Addr) (c1 c2 : Nat) (s : St) :
    Calls Try.prog 118 #[sv p1 s.t.length c1 p2 s.g.length c2] w0 (Post (X := Unit) (fun _ => .slice p2 s.g.length c2) (fun _ => True) (fun _ => []) w0) := by
  refine calls Try.func118 rfl (n := 5) rfl (by simp) ?_
  refine TC.seq ?_
  refine TC.region ?_
  refine TL.box rfl rfl (by decide) (fun b0 hb0 => ?_)
  refine TL.pure (PV.assign rfl) rfl (by decide) ?_
  refine TL.nil ?_
  refine TQ.thenC ?_
  refine TC.seq ?_
  refine TC.region ?_
  refine TL.pure (PV.fieldAddr rfl Tb.fo_63_1) rfl (by decide) ?_
  refine TL.pure (PV.load rfl Tb.one_25 (by repeat (first | exact List.Mem.head _ | refine List.Mem.tail _ ?_ | refine List.mem_append_right _ ?_)) rfl) rfl (by decide) ?_
  refine TL.pure (PV.assign rfl) rfl (by decide) ?_
  refine TL.nil ?_
  refine TQ.thenC ?_
  refine TC.ret ?_
  refine TQ.retE1 rfl rfl ?_
  exact ⟨(), rfl, trivial, List.nil_sublist _⟩

set_option maxRecDepth 100000 in
theorem haveAnyF_ok (w0 : World) (x : Int) (a : Addr) (pl : Option Addr) (cl : Nat) (xs : List Int) (hx : IntsAt w0 pl xs) (ha : w0.cell? a = some (.slice pl xs.length cl)) (hi : 0 ≤ x ∧ x < xs.length) :
    Calls Try.prog 122 #[.int .i64 x, .pointer (some a)] w0 (Post (X := Unit) (fun _ => .bool (decide (0 < xs.getD x.toNat 0))) (fun _ => True) (fun _ => []) w0) := by
  refine calls Try.func122 rfl (n := 9) rfl (by simp) ?_
  refine TC.seq ?_
  refine TC.region ?_
  refine TL.pure (PV.assign rfl) rfl (by decide) ?_
  refine TL.nil ?_
  refine TQ.thenC ?_
  refine TC.seq ?_
  obtain ⟨q1, hq1p, hq1⟩ := hx.in' rfl hi
  refine TC.region ?_
  refine TL.pure (PV.loadOld rfl Tb.one_25 ha) rfl (by decide) ?_
  refine TL.pure (PV.move rfl) rfl (by decide) ?_
  refine TL.pure (PV.indexA (j := x.toNat) rfl hq1p rfl Tb.elm_25 (by omega) (by omega)) rfl (by decide) ?_
  refine TL.pure (PV.loadOld rfl Tb.one_3 hq1) rfl (by decide) ?_
  refine TL.pure (PV.gtr rfl rfl) rfl (by decide) ?_
  refine TL.pure (PV.assign rfl) rfl (by decide) ?_
  refine TL.nil ?_
  refine TQ.thenC ?_
  refine TC.ret ?_
  refine TQ.retE1 rfl rfl ?_
  exact ⟨(), rfl, trivial, List.nil_sublist _⟩

set_option maxRecDepth 100000 in
theorem greatestF_ok (w0 : World) (x : Int) (a : Addr) (pl : Option Addr) (cl : Nat) (xs : List Int) (hx : IntsAt w0 pl xs) (ha : w0.cell? a = some (.slice pl xs.length cl)) (hi : 0 ≤ x ∧ x < xs.length) :
    Calls Try.prog 114 #[.int .i64 x, .pointer (some a)] w0 (Post (X := Unit) (fun _ => .bool (decide (0 < xs.getD x.toNat 0))) (fun _ => True) (fun _ => []) w0) := by
  refine calls Try.func114 rfl (n := 9) rfl (by simp) ?_
  refine TC.seq ?_
  refine TC.region ?_
  refine TL.pure (PV.assign rfl) rfl (by decide) ?_
  refine TL.nil ?_
  refine TQ.thenC ?_
  refine TC.seq ?_
  obtain ⟨q1, hq1p, hq1⟩ := hx.in' rfl hi
  refine TC.region ?_
  refine TL.pure (PV.loadOld rfl Tb.one_25 ha) rfl (by decide) ?_
  refine TL.pure (PV.move rfl) rfl (by decide) ?_
  refine TL.pure (PV.indexA (j := x.toNat) rfl hq1p rfl Tb.elm_25 (by omega) (by omega)) rfl (by decide) ?_
  refine TL.pure (PV.loadOld rfl Tb.one_3 hq1) rfl (by decide) ?_
  refine TL.pure (PV.gtr rfl rfl) rfl (by decide) ?_
  refine TL.pure (PV.assign rfl) rfl (by decide) ?_
  refine TL.nil ?_
  refine TQ.thenC ?_
  refine TC.ret ?_
  refine TQ.retE1 rfl rfl ?_
  exact ⟨(), rfl, trivial, List.nil_sublist _⟩

set_option maxRecDepth 100000 in
theorem haveAny_ok (w0 : World) (pl : Option Addr) (cl : Nat) (xs : List Int) (hx : IntsAt w0 pl xs) (p2 : Option Addr) (c2 : Nat) (ys : List Int) (hy : IntsAt w0 p2 ys) (hl : ys.length ≤ 1000000) (hi : InP xs.length ys) :
    Calls Try.prog 120 #[.slice pl xs.length cl, .slice p2 ys.length c2] w0 (Post (X := Unit) (fun _ => .bool (touB xs ys)) (fun _ => True) (fun _ => []) w0) := by
  refine calls Try.func120 rfl (n := 8) rfl (by simp) ?_
  refine TC.seq ?_
  refine TC.region ?_
  refine TL.box rfl rfl (by decide) (fun b0 hb0 => ?_)
  refine TL.pure (PV.assign rfl) rfl (by decide) ?_
  refine TL.nil ?_
  refine TQ.thenC ?_
  refine TC.seq ?_
  refine TC.region ?_
  refine TL.pure (PV.move rfl) rfl (by decide) ?_
  refine TL.pure (PV.makeFunc rfl) rfl (by decide) ?_
  refine TL.call rfl Tb.gofn_115 (fun a w hs => containsFunc_ok w _ _ ys (hy.new hs.new) hl 122 [.pointer (some ⟨b0, 0, none⟩)] (fun q => decide (0 < xs.getD q.toNat 0)) Tb.gofn_122 (fun w2 G2 hn2 x hm => haveAnyF_ok w2 x ⟨b0, 0, none⟩ _ _ xs (hx.new (hs.new.trans hn2)) ((hs.new.trans hn2).cell (by repeat (first | exact List.Mem.head _ | refine List.Mem.tail _ ?_ | refine List.mem_append_right _ ?_)) rfl) (hi x hm))) rfl (by decide) (fun _ _ => ?_)
  refine TL.pure (PV.assign rfl) rfl (by decide) ?_
  refine TL.nil ?_
  refine TQ.thenC ?_
  refine TC.ret ?_
  refine TQ.retE1 rfl rfl ?_
  exact ⟨(), rfl, trivial, List.nil_sublist _⟩

set_option maxRecDepth 100000 in
set_option maxHeartbeats 1000000 in
theorem touches_ok (w0 : World) (pl : Option Addr) (cl : Nat) (xs : List Int) (hx : IntsAt w0 pl xs) (p2 : Option Addr) (c2 : Nat) (ys : List Int) (hy : IntsAt w0 p2 ys) (hl : ys.length ≤ 1000000) (hi : InP xs.length ys) :
    Calls Try.prog 112 #[.slice pl xs.length cl, .slice p2 ys.length c2] w0 (Post (X := Unit) (fun _ => .bool (touB xs ys)) (fun _ => True) (fun _ => []) w0) := by
  refine calls Try.func112 rfl (n := 20) rfl (by simp) ?_
  refine TC.seq ?_
  refine TC.region ?_
  refine TL.pure (PV.assign rfl) rfl (by decide) ?_
  refine TL.nil ?_
  refine TQ.thenC ?_
  refine TC.seq ?_
  refine TC.seq ?_
  refine TC.region ?_
  refine TL.pure (PV.assign rfl) rfl (by decide) ?_
  refine TL.nil ?_
  refine TQ.thenC ?_
  refine TC.block ?_
  -- live and written in the loop, not told: [4]
  refine TC.loopG [0, 1] (X := Nat) (fun k => k ≤ ys.length ∧ ∀ j, j < k → ¬ 0 < xs.getD (ys.getD j 0).toNat 0) (fun k => [(5, .int .i64 k)]) (fun k => ys.length - k) 0 ⟨Nat.zero_le _, fun j hj => absurd hj (Nat.not_lt_zero _)⟩ (by repeat (first | exact True.intro | refine And.intro rfl ?_)) ?_
  intro k hk
  refine TC.seq ?_
  refine TC.seq ?_
  refine TC.region ?_
  refine TL.pure (PV.move rfl) rfl (by decide) ?_
  refine TL.pure (PV.move rfl) rfl (by decide) ?_
  refine TL.pure (PV.len rfl Tb.sl_25) rfl (by decide) ?_
  refine TL.pure (PV.lss rfl rfl) rfl (by decide) ?_
  refine TL.nil ?_
  refine TQ.thenC ?_
  first | refine TC.condD rfl (fun hlt => ?_) (fun hlt => ?_) | refine TC.cond rfl (fun hlt => ?_) (fun hlt => ?_)
  · skip
    refine TC.skip ?_
    refine TQ.thenC ?_
    refine TC.seq ?_
    refine TC.block ?_
    refine TC.seq ?_
    have hik := hi.at (k := k) (by omega)
    obtain ⟨q1, hq1p, hq1⟩ := hy k (by omega)
    obtain ⟨q2, hq2p, hq2⟩ := hx.in' rfl hik
    refine TC.region ?_
    refine TL.pure (PV.move rfl) rfl (by decide) ?_
    refine TL.pure (PV.move rfl) rfl (by decide) ?_
    refine TL.pure (PV.move rfl) rfl (by decide) ?_
    refine TL.pure (PV.indexA rfl hq1p rfl Tb.elm_25 rfl (by omega)) rfl (by decide) ?_
    refine TL.pure (PV.loadOld rfl Tb.one_3 hq1) rfl (by decide) ?_
    refine TL.pure (PV.indexA (j := (ys.getD k 0).toNat) rfl hq2p rfl Tb.elm_25 (by omega) (by omega)) rfl (by decide) ?_
    refine TL.pure (PV.loadOld rfl Tb.one_3 hq2) rfl (by decide) ?_
    refine TL.pure (PV.gtr rfl rfl) rfl (by decide) ?_
    refine TL.nil ?_
    refine TQ.thenC ?_
    first | refine TC.condD rfl (fun hno => ?_) (fun hno => ?_) | refine TC.cond rfl (fun hno => ?_) (fun hno => ?_)
    · skip
      refine TC.seq ?_
      refine TC.region ?_
      refine TL.pure (PV.assign rfl) rfl (by decide) ?_
      refine TL.nil ?_
      refine TQ.thenC ?_
      refine TC.ret ?_
      refine TQ.blkR ?_
      refine TQ.thenR ?_
      refine TQ.thenR ?_
      refine TQ.blkR ?_
      refine TQ.thenR ?_
      refine TQ.retE1 rfl rfl ?_
      exact ⟨(), by rw [tou_yes (k := k) (by omega) (by omega)], trivial, List.nil_sublist _⟩
    · skip
      refine TC.skip ?_
      refine TQ.blkN ?_
      refine TQ.thenC ?_
      refine TC.region ?_
      refine TL.pure (PV.move rfl) rfl (by decide) ?_
      refine TL.pure (PV.add rfl rfl (by omega)) rfl (by decide) ?_
      refine TL.pure (PV.assign rfl) rfl (by decide) ?_
      refine TL.nil ?_
      refine TQ.thenN ?_
      refine TQ.backK (k + 1) (by repeat (first | exact True.intro | refine And.intro rfl ?_)) (by repeat (first | exact True.intro | refine And.intro rfl ?_)) (by repeat (first | exact List.Sublist.slnil | exact List.nil_sublist _ | exact List.Sublist.refl _ | refine List.Sublist.cons_cons _ ?_ | refine List.Sublist.cons _ ?_ | refine List.Sublist.trans ?_ (List.sublist_append_right _ _))) ⟨by omega, fun j hj => if e : j < k then hk.2 j e else (show k = j by omega) ▸ (by omega)⟩ (by omega)
  · skip
    refine TC.exit ?_
    refine TQ.thenE ?_
    refine TQ.thenE ?_
    refine TQ.blkS ?_
    refine TQ.thenC ?_
    refine TC.seq ?_
    refine TC.region ?_
    refine TL.pure (PV.assign rfl) rfl (by decide) ?_
    refine TL.nil ?_
    refine TQ.thenC ?_
    refine TC.ret ?_
    refine TQ.retE1 rfl rfl ?_
    exact ⟨(), by rw [tou_no (fun j hj => hk.2 j (by omega))], trivial, List.nil_sublist _⟩

set_option maxRecDepth 100000 in
set_option maxHeartbeats 2000000 in
theorem breakerF0_ok (w0 : World) (p1 p2 : Option Addr) (c1 c2 : Nat) (s : St) (h1 : IntsAt w0 p1 s.t) (h2 : IntsAt w0 p2 s.g) (a b : Addr) (pl : Option Addr) (cl : Nat) (xs : List Int) (hx : IntsAt w0 pl xs) (ha0 : w0.cell? (a.add 0) = some (.func (.func 118) #[] #[])) (ha1 : w0.cell? (a.add 1) = some (.func (.func 117) #[] #[])) (hb : w0.cell? b = some (.slice pl xs.length cl)) (hl : xs.length ≤ 1000000) (hit : InP s.t.length xs) (hig : InP s.g.length xs) :
    Calls Try.prog 119 #[sv p1 s.t.length c1 p2 s.g.length c2, .pointer (some a), .pointer (some b)] w0 (Post (X := Unit) (fun _ => .bool (brk (kS 0 s) xs)) (fun _ => True) (fun _ => []) w0) := by
  refine calls Try.func119 rfl (n := 20) rfl (by simp) ?_
  refine TC.seq ?_
  refine TC.region ?_
  refine TL.box rfl rfl (by decide) (fun b0 hb0 => ?_)
  refine TL.pure (PV.assign rfl) rfl (by decide) ?_
  refine TL.nil ?_
  refine TQ.thenC ?_
  refine TC.seq ?_
  refine TC.mixV [true, true, true, false, true, false, true, true, true, true, false, true, false, true, true, true] [(b0, Obj.cells #[.slice p1 s.t.length c1, .slice p2 s.g.length c2] 63 (0, 0))] 16 Tb.mixed rfl (by kernel_rfl) (by kernel_rfl) (by kernel_rfl) (by kernel_rfl) (by repeat (first | exact List.Sublist.slnil | exact List.nil_sublist _ | exact List.Sublist.refl _ | refine List.Sublist.cons_cons _ ?_ | refine List.Sublist.cons _ ?_ | refine List.Sublist.trans ?_ (List.sublist_append_right _ _))) ?_
  refine TV.virt 0 rfl rfl (by decide) rfl (by kernel_rfl) (SOK.pure (PV.fieldAddrA rfl Tb.fo_111_0) rfl) ?_
  refine TV.virt 1 rfl rfl (by decide) rfl (by kernel_rfl) (SOK.pure (PV.loadOld rfl Tb.one_81 ha0) rfl) ?_
  refine TV.virt 2 rfl rfl (by decide) rfl (by kernel_rfl) (SOK.pure (PV.loadBox rfl Tb.agg_63 (by repeat (first | exact List.Mem.head _ | refine List.Mem.tail _ ?_ | refine List.mem_append_right _ ?_)) rfl) rfl) ?_
  refine TV.virt 4 rfl rfl (by decide) rfl (by kernel_rfl) (SOK.pure (PV.loadOld rfl Tb.one_25 hb) rfl) ?_
  refine TV.step [3] (by kernel_rfl) (by decide) rfl ⟨⟨_, rfl, ?_⟩, trivial⟩
  refine TL.callB (f := 118) (pre := []) (caps := []) (X := Unit) (fun _ => .slice p2 s.g.length c2) (fun _ => True) (fun _ => [(b0, Obj.cells #[.slice p1 s.t.length c1, .slice p2 s.g.length c2] 63 (0, 0))]) rfl rfl Tb.gofn_118 (fun a w hs => (kinds118_ok w p1 p2 c1 c2 s).mono fun e w' ⟨x9, h1, h2, h3⟩ => ⟨x9, h1, h2, hs.new.trans h3⟩) rfl (by decide) (fun _ _ => ?_)
  refine TL.nil ?_
  refine TV.next (.inl (by repeat (first | exact List.Sublist.slnil | exact List.nil_sublist _ | exact List.Sublist.refl _ | refine List.Sublist.cons_cons _ ?_ | refine List.Sublist.cons _ ?_ | refine List.Sublist.trans ?_ (List.sublist_append_right _ _)))) ?_
  refine TV.step [5] (by kernel_rfl) (by decide) rfl ⟨⟨_, rfl, ?_⟩, trivial⟩
  refine TL.call rfl Tb.gofn_120 (fun a w hs => haveAny_ok w _ _ _ (h2.new hs.new) _ _ _ (hx.new hs.new) hl hig) rfl (by decide) (fun _ _ => ?_)
  refine TL.nil ?_
  refine TV.next (.inl (by repeat (first | exact List.Sublist.slnil | exact List.nil_sublist _ | exact List.Sublist.refl _ | refine List.Sublist.cons_cons _ ?_ | refine List.Sublist.cons _ ?_ | refine List.Sublist.trans ?_ (List.sublist_append_right _ _)))) ?_
  refine TV.virt 6 rfl rfl (by decide) rfl (by kernel_rfl) (SOK.pure (PV.move rfl) rfl) ?_
  first | refine TV.splitD 11 rfl (fun e1 => ?_) (fun e1 => ?_) | refine TV.split 11 rfl (fun e1 => ?_) (fun e1 => ?_)
  · skip
    refine TV.virt 7 rfl rfl (by decide) rfl (by kernel_rfl) (SOK.pure (PV.fieldAddrA rfl Tb.fo_111_1) rfl) ?_
    refine TV.virt 8 rfl rfl (by decide) rfl (by kernel_rfl) (SOK.pure (PV.loadOld rfl Tb.one_81 ha1) rfl) ?_
    refine TV.virt 9 rfl rfl (by decide) rfl (by kernel_rfl) (SOK.pure (PV.loadBox rfl Tb.agg_63 (by repeat (first | exact List.Mem.head _ | refine List.Mem.tail _ ?_ | refine List.mem_append_right _ ?_)) rfl) rfl) ?_
    refine TV.virt 11 rfl rfl (by decide) rfl (by kernel_rfl) (SOK.pure (PV.loadOld rfl Tb.one_25 hb) rfl) ?_
    refine TV.step [10] (by kernel_rfl) (by decide) rfl ⟨⟨_, rfl, ?_⟩, trivial⟩
    refine TL.callB (f := 117) (pre := []) (caps := []) (X := Unit) (fun _ => .slice p1 s.t.length c1) (fun _ => True) (fun _ => [(b0, Obj.cells #[.slice p1 s.t.length c1, .slice p2 s.g.length c2] 63 (0, 0))]) rfl rfl Tb.gofn_117 (fun a w hs => (kinds117_ok w p1 p2 c1 c2 s).mono fun e w' ⟨x9, h1, h2, h3⟩ => ⟨x9, h1, h2, hs.new.trans h3⟩) rfl (by decide) (fun _ _ => ?_)
    refine TL.nil ?_
    refine TV.next (.inl (by repeat (first | exact List.Sublist.slnil | exact List.nil_sublist _ | exact List.Sublist.refl _ | refine List.Sublist.cons_cons _ ?_ | refine List.Sublist.cons _ ?_ | refine List.Sublist.trans ?_ (List.sublist_append_right _ _)))) ?_
    refine TV.step [12] (by kernel_rfl) (by decide) rfl ⟨⟨_, rfl, ?_⟩, trivial⟩
    refine TL.call rfl Tb.gofn_120 (fun a w hs => haveAny_ok w _ _ _ (h1.new hs.new) _ _ _ (hx.new hs.new) hl hit) rfl (by decide) (fun _ _ => ?_)
    refine TL.nil ?_
    refine TV.next (.inl (by repeat (first | exact List.Sublist.slnil | exact List.nil_sublist _ | exact List.Sublist.refl _ | refine List.Sublist.cons_cons _ ?_ | refine List.Sublist.cons _ ?_ | refine List.Sublist.trans ?_ (List.sublist_append_right _ _)))) ?_
    refine TV.virt 13 rfl rfl (by decide) rfl (by kernel_rfl) (SOK.pure ((by first | exact PV.notD rfl | exact PV.not rfl)) rfl) ?_
    refine TV.virt 14 rfl rfl (by decide) rfl (by kernel_rfl) (SOK.pure (PV.pickT rfl rfl) rfl) ?_
    refine TV.virt 15 rfl rfl (by decide) rfl (by kernel_rfl) (SOK.pure (PV.assign rfl) rfl) ?_
    refine TV.done (by kernel_rfl) ?_
    refine TQ.thenC ?_
    refine TC.ret ?_
    refine TQ.retE1 rfl rfl ?_
    exact ⟨(), by rw [show brk (kS 0 s) xs = _ from brk_and (s := s) rfl e1] <;> rfl, trivial, List.nil_sublist _⟩
  · skip
    refine TV.virt 7 rfl rfl (by decide) rfl (by kernel_rfl) (SOK.skip rfl) ?_
    refine TV.virt 8 rfl rfl (by decide) rfl (by kernel_rfl) (SOK.skip rfl) ?_
    refine TV.virt 9 rfl rfl (by decide) rfl (by kernel_rfl) (SOK.skip rfl) ?_
    refine TV.virt 11 rfl rfl (by decide) rfl (by kernel_rfl) (SOK.skip rfl) ?_
    refine TV.step [10] (by kernel_rfl) (by decide) rfl ⟨⟨_, rfl, ?_⟩, trivial⟩
    refine TL.skip rfl (fun k hk => by cases hk; decide) ?_
    refine TL.nil ?_
    refine TV.next (.inl (by repeat (first | exact List.Sublist.slnil | exact List.nil_sublist _ | exact List.Sublist.refl _ | refine List.Sublist.cons_cons _ ?_ | refine List.Sublist.cons _ ?_ | refine List.Sublist.trans ?_ (List.sublist_append_right _ _)))) ?_
    refine TV.step [12] (by kernel_rfl) (by decide) rfl ⟨⟨_, rfl, ?_⟩, trivial⟩
    refine TL.skip rfl (fun k hk => by cases hk; decide) ?_
    refine TL.nil ?_
    refine TV.next (.inl (by repeat (first | exact List.Sublist.slnil | exact List.nil_sublist _ | exact List.Sublist.refl _ | refine List.Sublist.cons_cons _ ?_ | refine List.Sublist.cons _ ?_ | refine List.Sublist.trans ?_ (List.sublist_append_right _ _)))) ?_
    refine TV.virt 13 rfl rfl (by decide) rfl (by kernel_rfl) (SOK.skip rfl) ?_
    refine TV.virt 14 rfl rfl (by decide) rfl (by kernel_rfl) (SOK.pure (PV.pickF rfl rfl) rfl) ?_
    refine TV.virt 15 rfl rfl (by decide) rfl (by kernel_rfl) (SOK.pure (PV.assign rfl) rfl) ?_
    refine TV.done (by kernel_rfl) ?_
    refine TQ.thenC ?_
    refine TC.ret ?_
    refine TQ.retE1 rfl rfl ?_
    exact ⟨(), by rw [show brk (kS 0 s) xs = _ from brk_no (s := s) e1] <;> rfl, trivial, List.nil_sublist _⟩

set_option maxRecDepth 100000 in
set_option maxHeartbeats 1000000 in
theorem breaker0_ok (w0 : World) (n : Int) (p : Option Addr) (cp : Nat) (ss : List St) (hr : StsAt w0 p ss) (hS : SmS ss) (hV : VY n ss) (vx : Value) (xs : List Int) (hv : IsI w0 vx xs) (hl : xs.length ≤ 1000000) (hin : InP n xs) :
    Calls Try.prog 111 #[.agg #[.func (.func 118) #[] #[], .func (.func 117) #[] #[]], yv n p ss.length cp, vx] w0 (Post (X := Int) (fun i => .int .i64 i) (fun i => Fst (fun s => brk (kS 0 s) xs) ss i) (fun _ => []) w0) := by
  obtain ⟨pl, cl, rfl, hx⟩ := hv
  refine calls Try.func111 rfl (n := 11) rfl (by simp) ?_
  refine TC.seq ?_
  refine TC.region ?_
  refine TL.box rfl rfl (by decide) (fun b0 hb0 => ?_)
  refine TL.box rfl rfl (by decide) (fun b1 hb1 => ?_)
  refine TL.box rfl rfl (by decide) (fun b2 hb2 => ?_)
  refine TL.pure (PV.assign rfl) rfl (by decide) ?_
  refine TL.nil ?_
  refine TQ.thenC ?_
  refine TC.seq ?_
  refine TC.region ?_
  refine TL.pure (PV.fieldAddr rfl Tb.fo_24_1) rfl (by decide) ?_
  refine TL.pure (PV.load rfl Tb.one_22 (by repeat (first | exact List.Mem.head _ | refine List.Mem.tail _ ?_ | refine List.mem_append_right _ ?_)) rfl) rfl (by decide) ?_
  refine TL.pure (PV.makeFuncB (pre := []) (caps := [_, _]) rfl rfl) rfl (by decide) ?_
  refine TL.call rfl Tb.gofn_106 (fun a w hs => stepIndex_ok w p cp ss (hr.new hs.new) hS.1 119 [] [.pointer (some ⟨b0, 0, none⟩), .pointer (some ⟨b2, 0, none⟩)] (fun s => brk (kS 0 s) xs) Tb.gofn_119 (fun w2 G2 hn2 k hk pa pb ca cb ha hb => breakerF0_ok w2 pa pb ca cb (ss.getD k default) ha hb ⟨b0, 0, none⟩ ⟨b2, 0, none⟩ _ _ xs (hx.new (hs.new.trans hn2)) ((hs.new.trans hn2).cell (by repeat (first | exact List.Mem.head _ | refine List.Mem.tail _ ?_ | refine List.mem_append_right _ ?_)) rfl) ((hs.new.trans hn2).cell (by repeat (first | exact List.Mem.head _ | refine List.Mem.tail _ ?_ | refine List.mem_append_right _ ?_)) rfl) ((hs.new.trans hn2).cell (by repeat (first | exact List.Mem.head _ | refine List.Mem.tail _ ?_ | refine List.mem_append_right _ ?_)) rfl) hl (by rw [(hV.tl hk).1]; exact hin) (by rw [(hV.tl hk).2]; exact hin))) rfl (by decide) (fun i9 hi9 => ?_)
  refine TL.pure (PV.assign rfl) rfl (by decide) ?_
  refine TL.nil ?_
  refine TQ.thenC ?_
  refine TC.ret ?_
  refine TQ.retE1 rfl rfl ?_
  exact ⟨i9, rfl, hi9, List.nil_sublist _⟩

set_option maxRecDepth 100000 in
set_option maxHeartbeats 2000000 in
theorem breakerF1_ok (w0 : World) (p1 p2 : Option Addr) (c1 c2 : Nat) (s : St) (h1 : IntsAt w0 p1 s.t) (h2 : IntsAt w0 p2 s.g) (a b : Addr) (pl : Option Addr) (cl : Nat) (xs : List Int) (hx : IntsAt w0 pl xs) (ha0 : w0.cell? (a.add 0) = some (.func (.func 117) #[] #[])) (ha1 : w0.cell? (a.add 1) = some (.func (.func 118) #[] #[])) (hb : w0.cell? b = some (.slice pl xs.length cl)) (hl : xs.length ≤ 1000000) (hit : InP s.t.length xs) (hig : InP s.g.length xs) :
    Calls Try.prog 119 #[sv p1 s.t.length c1 p2 s.g.length c2, .pointer (some a), .pointer (some b)] w0 (Post (X := Unit) (fun _ => .bool (brk (kS 1 s) xs)) (fun _ => True) (fun _ => []) w0) := by
  refine calls Try.func119 rfl (n := 20) rfl (by simp) ?_
  refine TC.seq ?_
  refine TC.region ?_
  refine TL.box rfl rfl (by decide) (fun b0 hb0 => ?_)
  refine TL.pure (PV.assign rfl) rfl (by decide) ?_
  refine TL.nil ?_
  refine TQ.thenC ?_
  refine TC.seq ?_
  refine TC.mixV [true, true, true, false, true, false, true, true, true, true, false, true, false, true, true, true] [(b0, Obj.cells #[.slice p1 s.t.length c1, .slice p2 s.g.length c2] 63 (0, 0))] 16 Tb.mixed rfl (by kernel_rfl) (by kernel_rfl) (by kernel_rfl) (by kernel_rfl) (by repeat (first | exact List.Sublist.slnil | exact List.nil_sublist _ | exact List.Sublist.refl _ | refine List.Sublist.cons_cons _ ?_ | refine List.Sublist.cons _ ?_ | refine List.Sublist.trans ?_ (List.sublist_append_right _ _))) ?_
  refine TV.virt 0 rfl rfl (by decide) rfl (by kernel_rfl) (SOK.pure (PV.fieldAddrA rfl Tb.fo_111_0) rfl) ?_
  refine TV.virt 1 rfl rfl (by decide) rfl (by kernel_rfl) (SOK.pure (PV.loadOld rfl Tb.one_81 ha0) rfl) ?_
  refine TV.virt 2 rfl rfl (by decide) rfl (by kernel_rfl) (SOK.pure (PV.loadBox rfl Tb.agg_63 (by repeat (first | exact List.Mem.head _ | refine List.Mem.tail _ ?_ | refine List.mem_append_right _ ?_)) rfl) rfl) ?_
  refine TV.virt 4 rfl rfl (by decide) rfl (by kernel_rfl) (SOK.pure (PV.loadOld rfl Tb.one_25 hb) rfl) ?_
  refine TV.step [3] (by kernel_rfl) (by decide) rfl ⟨⟨_, rfl, ?_⟩, trivial⟩
  refine TL.callB (f := 117) (pre := []) (caps := []) (X := Unit) (fun _ => .slice p1 s.t.length c1) (fun _ => True) (fun _ => [(b0, Obj.cells #[.slice p1 s.t.length c1, .slice p2 s.g.length c2] 63 (0, 0))]) rfl rfl Tb.gofn_117 (fun a w hs => (kinds117_ok w p1 p2 c1 c2 s).mono fun e w' ⟨x9, h1, h2, h3⟩ => ⟨x9, h1, h2, hs.new.trans h3⟩) rfl (by decide) (fun _ _ => ?_)
  refine TL.nil ?_
  refine TV.next (.inl (by repeat (first | exact List.Sublist.slnil | exact List.nil_sublist _ | exact List.Sublist.refl _ | refine List.Sublist.cons_cons _ ?_ | refine List.Sublist.cons _ ?_ | refine List.Sublist.trans ?_ (List.sublist_append_right _ _)))) ?_
  refine TV.step [5] (by kernel_rfl) (by decide) rfl ⟨⟨_, rfl, ?_⟩, trivial⟩
  refine TL.call rfl Tb.gofn_120 (fun a w hs => haveAny_ok w _ _ _ (h1.new hs.new) _ _ _ (hx.new hs.new) hl hit) rfl (by decide) (fun _ _ => ?_)
  refine TL.nil ?_
  refine TV.next (.inl (by repeat (first | exact List.Sublist.slnil | exact List.nil_sublist _ | exact List.Sublist.refl _ | refine List.Sublist.cons_cons _ ?_ | refine List.Sublist.cons _ ?_ | refine List.Sublist.trans ?_ (List.sublist_append_right _ _)))) ?_
  refine TV.virt 6 rfl rfl (by decide) rfl (by kernel_rfl) (SOK.pure (PV.move rfl) rfl) ?_
  first | refine TV.splitD 11 rfl (fun e1 => ?_) (fun e1 => ?_) | refine TV.split 11 rfl (fun e1 => ?_) (fun e1 => ?_)
  · skip
    refine TV.virt 7 rfl rfl (by decide) rfl (by kernel_rfl) (SOK.pure (PV.fieldAddrA rfl Tb.fo_111_1) rfl) ?_
    refine TV.virt 8 rfl rfl (by decide) rfl (by kernel_rfl) (SOK.pure (PV.loadOld rfl Tb.one_81 ha1) rfl) ?_
    refine TV.virt 9 rfl rfl (by decide) rfl (by kernel_rfl) (SOK.pure (PV.loadBox rfl Tb.agg_63 (by repeat (first | exact List.Mem.head _ | refine List.Mem.tail _ ?_ | refine List.mem_append_right _ ?_)) rfl) rfl) ?_
    refine TV.virt 11 rfl rfl (by decide) rfl (by kernel_rfl) (SOK.pure (PV.loadOld rfl Tb.one_25 hb) rfl) ?_
    refine TV.step [10] (by kernel_rfl) (by decide) rfl ⟨⟨_, rfl, ?_⟩, trivial⟩
    refine TL.callB (f := 118) (pre := []) (caps := []) (X := Unit) (fun _ => .slice p2 s.g.length c2) (fun _ => True) (fun _ => [(b0, Obj.cells #[.slice p1 s.t.length c1, .slice p2 s.g.length c2] 63 (0, 0))]) rfl rfl Tb.gofn_118 (fun a w hs => (kinds118_ok w p1 p2 c1 c2 s).mono fun e w' ⟨x9, h1, h2, h3⟩ => ⟨x9, h1, h2, hs.new.trans h3⟩) rfl (by decide) (fun _ _ => ?_)
    refine TL.nil ?_
    refine TV.next (.inl (by repeat (first | exact List.Sublist.slnil | exact List.nil_sublist _ | exact List.Sublist.refl _ | refine List.Sublist.cons_cons _ ?_ | refine List.Sublist.cons _ ?_ | refine List.Sublist.trans ?_ (List.sublist_append_right _ _)))) ?_
    refine TV.step [12] (by kernel_rfl) (by decide) rfl ⟨⟨_, rfl, ?_⟩, trivial⟩
    refine TL.call rfl Tb.gofn_120 (fun a w hs => haveAny_ok w _ _ _ (h2.new hs.new) _ _ _ (hx.new hs.new) hl hig) rfl (by decide) (fun _ _ => ?_)
    refine TL.nil ?_
    refine TV.next (.inl (by repeat (first | exact List.Sublist.slnil | exact List.nil_sublist _ | exact List.Sublist.refl _ | refine List.Sublist.cons_cons _ ?_ | refine List.Sublist.cons _ ?_ | refine List.Sublist.trans ?_ (List.sublist_append_right _ _)))) ?_
    refine TV.virt 13 rfl rfl (by decide) rfl (by kernel_rfl) (SOK.pure ((by first | exact PV.notD rfl | exact PV.not rfl)) rfl) ?_
    refine TV.virt 14 rfl rfl (by decide) rfl (by kernel_rfl) (SOK.pure (PV.pickT rfl rfl) rfl) ?_
    refine TV.virt 15 rfl rfl (by decide) rfl (by kernel_rfl) (SOK.pure (PV.assign rfl) rfl) ?_
    refine TV.done (by kernel_rfl) ?_
    refine TQ.thenC ?_
    refine TC.ret ?_
    refine TQ.retE1 rfl rfl ?_
    exact ⟨(), by rw [show brk (kS 1 s) xs = _ from brk_and (s := swS s) rfl e1] <;> rfl, trivial, List.nil_sublist _⟩
  · skip
    refine TV.virt 7 rfl rfl (by decide) rfl (by kernel_rfl) (SOK.skip rfl) ?_
    refine TV.virt 8 rfl rfl (by decide) rfl (by kernel_rfl) (SOK.skip rfl) ?_
    refine TV.virt 9 rfl rfl (by decide) rfl (by kernel_rfl) (SOK.skip rfl) ?_
    refine TV.virt 11 rfl rfl (by decide) rfl (by kernel_rfl) (SOK.skip rfl) ?_
    refine TV.step [10] (by kernel_rfl) (by decide) rfl ⟨⟨_, rfl, ?_⟩, trivial⟩
    refine TL.skip rfl (fun k hk => by cases hk; decide) ?_
    refine TL.nil ?_
    refine TV.next (.inl (by repeat (first | exact List.Sublist.slnil | exact List.nil_sublist _ | exact List.Sublist.refl _ | refine List.Sublist.cons_cons _ ?_ | refine List.Sublist.cons _ ?_ | refine List.Sublist.trans ?_ (List.sublist_append_right _ _)))) ?_
    refine TV.step [12] (by kernel_rfl) (by decide) rfl ⟨⟨_, rfl, ?_⟩, trivial⟩
    refine TL.skip rfl (fun k hk => by cases hk; decide) ?_
    refine TL.nil ?_
    refine TV.next (.inl (by repeat (first | exact List.Sublist.slnil | exact List.nil_sublist _ | exact List.Sublist.refl _ | refine List.Sublist.cons_cons _ ?_ | refine List.Sublist.cons _ ?_ | refine List.Sublist.trans ?_ (List.sublist_append_right _ _)))) ?_
    refine TV.virt 13 rfl rfl (by decide) rfl (by kernel_rfl) (SOK.skip rfl) ?_
    refine TV.virt 14 rfl rfl (by decide) rfl (by kernel_rfl) (SOK.pure (PV.pickF rfl rfl) rfl) ?_
    refine TV.virt 15 rfl rfl (by decide) rfl (by kernel_rfl) (SOK.pure (PV.assign rfl) rfl) ?_
    refine TV.done (by kernel_rfl) ?_
    refine TQ.thenC ?_
    refine TC.ret ?_
    refine TQ.retE1 rfl rfl ?_
    exact ⟨(), by rw [show brk (kS 1 s) xs = _ from brk_no (s := swS s) e1] <;> rfl, trivial, List.nil_sublist _⟩

set_option maxRecDepth 100000 in
set_option maxHeartbeats 1000000 in
theorem breaker1_ok (w0 : World) (n : Int) (p : Option Addr) (cp : Nat) (ss : List St) (hr : StsAt w0 p ss) (hS : SmS ss) (hV : VY n ss) (vx : Value) (xs : List Int) (hv : IsI w0 vx xs) (hl : xs.length ≤ 1000000) (hin : InP n xs) :
    Calls Try.prog 111 #[.agg #[.func (.func 117) #[] #[], .func (.func 118) #[] #[]], yv n p ss.length cp, vx] w0 (Post (X := Int) (fun i => .int .i64 i) (fun i => Fst (fun s => brk (kS 1 s) xs) ss i) (fun _ => []) w0) := by
  obtain ⟨pl, cl, rfl, hx⟩ := hv
  refine calls Try.func111 rfl (n := 11) rfl (by simp) ?_
  refine TC.seq ?_
  refine TC.region ?_
  refine TL.box rfl rfl (by decide) (fun b0 hb0 => ?_)
  refine TL.box rfl rfl (by decide) (fun b1 hb1 => ?_)
  refine TL.box rfl rfl (by decide) (fun b2 hb2 => ?_)
  refine TL.pure (PV.assign rfl) rfl (by decide) ?_
  refine TL.nil ?_
  refine TQ.thenC ?_
  refine TC.seq ?_
  refine TC.region ?_
  refine TL.pure (PV.fieldAddr rfl Tb.fo_24_1) rfl (by decide) ?_
  refine TL.pure (PV.load rfl Tb.one_22 (by repeat (first | exact List.Mem.head _ | refine List.Mem.tail _ ?_ | refine List.mem_append_right _ ?_)) rfl) rfl (by decide) ?_
  refine TL.pure (PV.makeFuncB (pre := []) (caps := [_, _]) rfl rfl) rfl (by decide) ?_
  refine TL.call rfl Tb.gofn_106 (fun a w hs => stepIndex_ok w p cp ss (hr.new hs.new) hS.1 119 [] [.pointer (some ⟨b0, 0, none⟩), .pointer (some ⟨b2, 0, none⟩)] (fun s => brk (kS 1 s) xs) Tb.gofn_119 (fun w2 G2 hn2 k hk pa pb ca cb ha hb => breakerF1_ok w2 pa pb ca cb (ss.getD k default) ha hb ⟨b0, 0, none⟩ ⟨b2, 0, none⟩ _ _ xs (hx.new (hs.new.trans hn2)) ((hs.new.trans hn2).cell (by repeat (first | exact List.Mem.head _ | refine List.Mem.tail _ ?_ | refine List.mem_append_right _ ?_)) rfl) ((hs.new.trans hn2).cell (by repeat (first | exact List.Mem.head _ | refine List.Mem.tail _ ?_ | refine List.mem_append_right _ ?_)) rfl) ((hs.new.trans hn2).cell (by repeat (first | exact List.Mem.head _ | refine List.Mem.tail _ ?_ | refine List.mem_append_right _ ?_)) rfl) hl (by rw [(hV.tl hk).1]; exact hin) (by rw [(hV.tl hk).2]; exact hin))) rfl (by decide) (fun i9 hi9 => ?_)
  refine TL.pure (PV.assign rfl) rfl (by decide) ?_
  refine TL.nil ?_
  refine TQ.thenC ?_
  refine TC.ret ?_
  refine TQ.retE1 rfl rfl ?_
  exact ⟨i9, rfl, hi9, List.nil_sublist _⟩

set_option maxRecDepth 100000 in
set_option maxHeartbeats 1000000 in
theorem valSet_ok (w0 : World) (n : Int) (p : Option Addr) (cp : Nat) (ss : List St) (hr : StsAt w0 p ss) (hS : SmS ss) (vx : Value) (xs : List Int) (hv : IsI w0 vx xs) (hl : xs.length ≤ 1000000) :
    Calls Try.prog 109 #[yv n p ss.length cp, vx] w0 (Post (X := Unit) (fun _ => .int .i64 (setI n ss xs)) (fun _ => True) (fun _ => []) w0) := by
  obtain ⟨pl, cl, rfl, hx⟩ := hv
  refine calls Try.func109 rfl (n := 34) rfl (by simp) ?_
  refine TC.seq ?_
  refine TC.region ?_
  refine TL.box rfl rfl (by decide) (fun b0 hb0 => ?_)
  refine TL.pure (PV.assign rfl) rfl (by decide) ?_
  refine TL.nil ?_
  refine TQ.thenC ?_
  refine TC.seq ?_
  refine TC.seq ?_
  refine TC.region ?_
  refine TL.pure (PV.loadBox rfl Tb.agg_24 (by repeat (first | exact List.Mem.head _ | refine List.Mem.tail _ ?_ | refine List.mem_append_right _ ?_)) rfl) rfl (by decide) ?_
  refine TL.call rfl Tb.gofn_24 (fun a w hs => validate_ok w _ _ _ _ (hr.new hs.new) hS) rfl (by decide) (fun _ _ => ?_)
  refine TL.pure (PV.assign rfl) rfl (by decide) ?_
  refine TL.nil ?_
  refine TQ.thenC ?_
  refine TC.seq ?_
  refine TC.region ?_
  refine TL.pure (PV.move rfl) rfl (by decide) ?_
  refine TL.pure (PV.neq rfl rfl) rfl (by decide) ?_
  refine TL.nil ?_
  refine TQ.thenC ?_
  first | refine TC.condD rfl (fun a1 => ?_) (fun a1 => ?_) | refine TC.cond rfl (fun a1 => ?_) (fun a1 => ?_)
  · skip
    refine TC.seq ?_
    refine TC.region ?_
    refine TL.pure (PV.move rfl) rfl (by decide) ?_
    refine TL.pure (PV.assign rfl) rfl (by decide) ?_
    refine TL.nil ?_
    refine TQ.thenC ?_
    refine TC.ret ?_
    refine TQ.thenR ?_
    refine TQ.retE1 rfl rfl ?_
    exact ⟨(), by rw [set_v a1], trivial, List.nil_sublist _⟩
  · skip
    refine TC.skip ?_
    refine TQ.thenC ?_
    refine TC.seq ?_
    refine TC.seq ?_
    have hwn := (vy_of a1).hn
    refine TC.region ?_
    refine TL.pure (PV.move rfl) rfl (by decide) ?_
    refine TL.pure (PV.fieldAddr rfl Tb.fo_24_0) rfl (by decide) ?_
    refine TL.pure (PV.load rfl Tb.one_3 (by repeat (first | exact List.Mem.head _ | refine List.Mem.tail _ ?_ | refine List.mem_append_right _ ?_)) rfl) rfl (by decide) ?_
    refine TL.pure (PV.sub rfl rfl (by omega)) rfl (by decide) ?_
    refine TL.call rfl Tb.gofn_105 (fun a w hs => areWithin_ok w _ _ _ (hx.new hs.new) hl _ _) rfl (by decide) (fun _ _ => ?_)
    refine TL.pure ((by first | exact PV.notD rfl | exact PV.not rfl)) rfl (by decide) ?_
    refine TL.nil ?_
    refine TQ.thenC ?_
    first | refine TC.condD rfl (fun a2 => ?_) (fun a2 => ?_) | refine TC.cond rfl (fun a2 => ?_) (fun a2 => ?_)
    · skip
      refine TC.seq ?_
      refine TC.region ?_
      refine TL.pure (PV.assign rfl) rfl (by decide) ?_
      refine TL.nil ?_
      refine TQ.thenC ?_
      refine TC.ret ?_
      refine TQ.thenR ?_
      refine TQ.retE1 rfl rfl ?_
      exact ⟨(), by rw [set_1 a1 (plc_not (by simpa using a2))], trivial, List.nil_sublist _⟩
    · skip
      refine TC.skip ?_
      refine TQ.thenC ?_
      refine TC.seq ?_
      refine TC.seq ?_
      refine TC.region ?_
      refine TL.pure (PV.assign rfl) rfl (by decide) ?_
      refine TL.nil ?_
      refine TQ.thenC ?_
      refine TC.block ?_
      -- live and written in the loop, not told: [4]
      have hV := vy_of a1
      have hwn := hV.hn
      have ha2 : (xs.all fun x => wiB x 0 (n - 1)) = true := by simpa using a2
      refine TC.loopG [1] (X := Nat) (fun k => 1 ≤ k ∧ ∀ j, j < k → 0 < j → j < xs.length → xs.getD (j - 1) 0 < xs.getD j 0) (fun k => [(6, .int .i64 k)]) (fun k => xs.length - k) 1 ⟨Nat.le_refl _, fun j h1 h2 => by omega⟩ (by repeat (first | exact True.intro | refine And.intro rfl ?_)) ?_
      intro k hk
      refine TC.seq ?_
      refine TC.seq ?_
      refine TC.region ?_
      refine TL.pure (PV.move rfl) rfl (by decide) ?_
      refine TL.pure (PV.move rfl) rfl (by decide) ?_
      refine TL.pure (PV.len rfl Tb.sl_25) rfl (by decide) ?_
      refine TL.pure (PV.lss rfl rfl) rfl (by decide) ?_
      refine TL.nil ?_
      refine TQ.thenC ?_
      first | refine TC.condD rfl (fun hlt => ?_) (fun hlt => ?_) | refine TC.cond rfl (fun hlt => ?_) (fun hlt => ?_)
      · skip
        refine TC.skip ?_
        refine TQ.thenC ?_
        refine TC.seq ?_
        refine TC.block ?_
        refine TC.seq ?_
        obtain ⟨q1, hq1p, hq1⟩ := hx (k - 1) (by omega)
        obtain ⟨q2, hq2p, hq2⟩ := hx k (by omega)
        refine TC.any Tb.mixed rfl rfl ?_
        refine TA.op (OpOK.pure (PV.move rfl) rfl (by decide)) (by decide) ?_
        refine TA.op (OpOK.pure (PV.move rfl) rfl (by decide)) (by decide) ?_
        refine TA.op (OpOK.pure (PV.sub rfl rfl (by omega)) rfl (by decide)) (by decide) ?_
        refine TA.op (OpOK.pure (PV.indexA (j := k - 1) rfl hq1p rfl Tb.elm_25 (by omega) (by omega)) rfl (by decide)) (by decide) ?_
        refine TA.op (OpOK.pure (PV.loadOld rfl Tb.one_3 hq1) rfl (by decide)) (by decide) ?_
        refine TA.op (OpOK.pure (PV.move rfl) rfl (by decide)) (by decide) ?_
        refine TA.op (OpOK.pure (PV.move rfl) rfl (by decide)) (by decide) ?_
        refine TA.op (OpOK.pure (PV.indexA rfl hq2p rfl Tb.elm_25 rfl (by omega)) rfl (by decide)) (by decide) ?_
        refine TA.op (OpOK.pure (PV.loadOld rfl Tb.one_3 hq2) rfl (by decide)) (by decide) ?_
        refine TA.op (OpOK.pure (PV.geq rfl rfl) rfl (by decide)) (by decide) ?_
        show TQ _ _ _ _ _
        refine TQ.thenC ?_
        first | refine TC.condD rfl (fun hno => ?_) (fun hno => ?_) | refine TC.cond rfl (fun hno => ?_) (fun hno => ?_)
        · skip
          refine TC.seq ?_
          refine TC.region ?_
          refine TL.pure (PV.assign rfl) rfl (by decide) ?_
          refine TL.nil ?_
          refine TQ.thenC ?_
          refine TC.ret ?_
          refine TQ.blkR ?_
          refine TQ.thenR ?_
          refine TQ.thenR ?_
          refine TQ.blkR ?_
          refine TQ.thenR ?_
          refine TQ.retE1 rfl rfl ?_
          exact ⟨(), by rw [set_1 a1 (fun h => by have := (h k (by omega)).2 (by omega); omega)], trivial, List.nil_sublist _⟩
        · skip
          refine TC.skip ?_
          refine TQ.blkN ?_
          refine TQ.thenC ?_
          refine TC.region ?_
          refine TL.pure (PV.move rfl) rfl (by decide) ?_
          refine TL.pure (PV.add rfl rfl (by omega)) rfl (by decide) ?_
          refine TL.pure (PV.assign rfl) rfl (by decide) ?_
          refine TL.nil ?_
          refine TQ.thenN ?_
          refine TQ.backK (k + 1) (by repeat (first | exact True.intro | refine And.intro rfl ?_)) (by repeat (first | exact True.intro | refine And.intro rfl ?_)) (by repeat (first | exact List.Sublist.slnil | exact List.nil_sublist _ | exact List.Sublist.refl _ | refine List.Sublist.cons_cons _ ?_ | refine List.Sublist.cons _ ?_ | refine List.Sublist.trans ?_ (List.sublist_append_right _ _))) ⟨by omega, fun j h1 h2 h3 => if e : j < k then hk.2 j e h2 h3 else (show k = j by omega) ▸ (by omega)⟩ (by omega)
      · skip
        refine TC.exit ?_
        refine TQ.thenE ?_
        refine TQ.thenE ?_
        refine TQ.blkS ?_
        refine TQ.thenC ?_
        refine TC.seq ?_
        refine TC.region ?_
        refine TL.pure (PV.assign rfl) rfl (by decide) ?_
        refine TL.nil ?_
        refine TQ.thenC ?_
        refine TC.ret ?_
        refine TQ.retE1 rfl rfl ?_
        exact ⟨(), by rw [set_0 a1 (fun j hj => ⟨plc_within ha2 hj, fun h0 => hk.2 j (by omega) h0 hj⟩)], trivial, List.nil_sublist _⟩

set_option maxRecDepth 100000 in
set_option maxHeartbeats 1000000 in
theorem placed_ok (w0 : World) (n : Int) (p : Option Addr) (cp : Nat) (ss : List St) (hr : StsAt w0 p ss) (hS : SmS ss) (vx : Value) (xs : List Int) (hv : IsI w0 vx xs) (hl : xs.length ≤ 1000000) :
    Calls Try.prog 99 #[yv n p ss.length cp, vx] w0 (Post (X := Unit) (fun _ => .int .i64 (setI n ss xs)) (fun _ => True) (fun _ => []) w0) := by
  obtain ⟨pl, cl, rfl, hx⟩ := hv
  refine calls Try.func99 rfl (n := 43) rfl (by simp) ?_
  refine TC.seq ?_
  refine TC.region ?_
  refine TL.box rfl rfl (by decide) (fun b0 hb0 => ?_)
  refine TL.pure (PV.assign rfl) rfl (by decide) ?_
  refine TL.nil ?_
  refine TQ.thenC ?_
  refine TC.seq ?_
  refine TC.seq ?_
  refine TC.region ?_
  refine TL.pure (PV.loadBox rfl Tb.agg_24 (by repeat (first | exact List.Mem.head _ | refine List.Mem.tail _ ?_ | refine List.mem_append_right _ ?_)) rfl) rfl (by decide) ?_
  refine TL.call rfl Tb.gofn_25 (fun a w hs => rvalidate_ok w _ _ _ _ (hr.new hs.new) hS) rfl (by decide) (fun _ _ => ?_)
  refine TL.pure (PV.assign rfl) rfl (by decide) ?_
  refine TL.nil ?_
  refine TQ.thenC ?_
  refine TC.seq ?_
  refine TC.region ?_
  refine TL.pure (PV.move rfl) rfl (by decide) ?_
  refine TL.pure (PV.neq rfl rfl) rfl (by decide) ?_
  refine TL.nil ?_
  refine TQ.thenC ?_
  first | refine TC.condD rfl (fun a1 => ?_) (fun a1 => ?_) | refine TC.cond rfl (fun a1 => ?_) (fun a1 => ?_)
  · skip
    refine TC.seq ?_
    refine TC.region ?_
    refine TL.pure (PV.move rfl) rfl (by decide) ?_
    refine TL.pure (PV.assign rfl) rfl (by decide) ?_
    refine TL.nil ?_
    refine TQ.thenC ?_
    refine TC.ret ?_
    refine TQ.thenR ?_
    refine TQ.retE1 rfl rfl ?_
    first | exact ⟨(), by rw [set_v a1], trivial, List.nil_sublist _⟩ | (refine ⟨(), ?_, trivial, List.nil_sublist _⟩; rw [set_1 a1 (fun h => by have h9 := h k (by omega); first | (simp at b1; omega) | (have := h9.2 (by omega); omega))]; done) | exact ⟨(), by rw [set_0 a1 (fun j hj => hk.2 j (by omega))], trivial, List.nil_sublist _⟩
  · skip
    refine TC.skip ?_
    refine TQ.thenC ?_
    refine TC.seq ?_
    refine TC.seq ?_
    refine TC.region ?_
    refine TL.pure (PV.assign rfl) rfl (by decide) ?_
    refine TL.nil ?_
    refine TQ.thenC ?_
    refine TC.block ?_
    -- live and written in the loop, not told: [4]
    have hV := vy_of a1
    have hwn := hV.hn
    refine TC.loopG [1, 2] (X := Nat) (fun k => k ≤ xs.length ∧ ∀ j, j < k → (0 ≤ xs.getD j 0 ∧ xs.getD j 0 ≤ n - 1) ∧ (0 < j → xs.getD (j - 1) 0 < xs.getD j 0)) (fun k => [(6, .int .i64 k)]) (fun k => xs.length - k) 0 ⟨Nat.zero_le _, fun j hj => absurd hj (Nat.not_lt_zero _)⟩ (by repeat (first | exact True.intro | refine And.intro rfl ?_)) ?_
    intro k hk
    refine TC.seq ?_
    refine TC.seq ?_
    refine TC.region ?_
    refine TL.pure (PV.move rfl) rfl (by decide) ?_
    refine TL.pure (PV.move rfl) rfl (by decide) ?_
    refine TL.pure (PV.len rfl Tb.sl_25) rfl (by decide) ?_
    refine TL.pure (PV.lss rfl rfl) rfl (by decide) ?_
    refine TL.nil ?_
    refine TQ.thenC ?_
    first | refine TC.condD rfl (fun hlt => ?_) (fun hlt => ?_) | refine TC.cond rfl (fun hlt => ?_) (fun hlt => ?_)
    · skip
      refine TC.skip ?_
      refine TQ.thenC ?_
      refine TC.seq ?_
      refine TC.block ?_
      refine TC.seq ?_
      obtain ⟨q2, hq2p, hq2⟩ := hx k (by omega)
      obtain ⟨q3, hq3p, hq3⟩ := hx (k - 1) (by omega)
      refine TC.mixV [true, true, true, true, true, true, true, false, true, true, true, true, true, true, true, true, true, true, true, true, true, true, true, true, true] [(b0, Obj.cells #[.int .i64 n, .slice p ss.length cp] 24 (0, 0))] 25 Tb.mixed rfl (by kernel_rfl) (by kernel_rfl) (by kernel_rfl) (by kernel_rfl) (by repeat (first | exact List.Sublist.slnil | exact List.nil_sublist _ | exact List.Sublist.refl _ | refine List.Sublist.cons_cons _ ?_ | refine List.Sublist.cons _ ?_ | refine List.Sublist.trans ?_ (List.sublist_append_right _ _))) ?_
      refine TV.virt 0 rfl rfl (by decide) rfl (by kernel_rfl) (SOK.pure (PV.move rfl) rfl) ?_
      refine TV.virt 1 rfl rfl (by decide) rfl (by kernel_rfl) (SOK.pure (PV.move rfl) rfl) ?_
      refine TV.virt 2 rfl rfl (by decide) rfl (by kernel_rfl) (SOK.pure (PV.indexA rfl hq2p rfl Tb.elm_25 rfl (by omega)) rfl) ?_
      refine TV.virt 3 rfl rfl (by decide) rfl (by kernel_rfl) (SOK.pure (PV.loadOld rfl Tb.one_3 hq2) rfl) ?_
      refine TV.virt 4 rfl rfl (by decide) rfl (by kernel_rfl) (SOK.pure (PV.fieldAddr rfl Tb.fo_24_0) rfl) ?_
      refine TV.virt 5 rfl rfl (by decide) rfl (by kernel_rfl) (SOK.pure (PV.load rfl Tb.one_3 (by repeat (first | exact List.Mem.head _ | refine List.Mem.tail _ ?_ | refine List.mem_append_right _ ?_)) rfl) rfl) ?_
      refine TV.virt 6 rfl rfl (by decide) rfl (by kernel_rfl) (SOK.pure (PV.sub rfl rfl (by omega)) rfl) ?_
      refine TV.step [7] (by kernel_rfl) (by decide) rfl ⟨⟨_, rfl, ?_⟩, trivial⟩
      refine TL.call rfl Tb.gofn_71 (fun a w hs => within_ok w _ _ _) rfl (by decide) (fun _ _ => ?_)
      refine TL.nil ?_
      refine TV.next (.inl (by repeat (first | exact List.Sublist.slnil | exact List.nil_sublist _ | exact List.Sublist.refl _ | refine List.Sublist.cons_cons _ ?_ | refine List.Sublist.cons _ ?_ | refine List.Sublist.trans ?_ (List.sublist_append_right _ _)))) ?_
      refine TV.virt 8 rfl rfl (by decide) rfl (by kernel_rfl) (SOK.pure ((by first | exact PV.notD rfl | exact PV.not rfl)) rfl) ?_
      refine TV.virt 9 rfl rfl (by decide) rfl (by kernel_rfl) (SOK.pure (PV.move rfl) rfl) ?_
      first | refine TV.splitD 27 rfl (fun b1 => ?_) (fun b1 => ?_) | refine TV.split 27 rfl (fun b1 => ?_) (fun b1 => ?_)
      · skip
        refine TV.virt 10 rfl rfl (by decide) rfl (by kernel_rfl) (SOK.skip rfl) ?_
        refine TV.virt 11 rfl rfl (by decide) rfl (by kernel_rfl) (SOK.skip rfl) ?_
        refine TV.virt 12 rfl rfl (by decide) rfl (by kernel_rfl) (SOK.skip rfl) ?_
        refine TV.virt 13 rfl rfl (by decide) rfl (by kernel_rfl) (SOK.skipU rfl) ?_
        refine TV.virt 14 rfl rfl (by decide) rfl (by kernel_rfl) (SOK.skipU rfl) ?_
        refine TV.virt 15 rfl rfl (by decide) rfl (by kernel_rfl) (SOK.skipU rfl) ?_
        refine TV.virt 16 rfl rfl (by decide) rfl (by kernel_rfl) (SOK.skipU rfl) ?_
        refine TV.virt 17 rfl rfl (by decide) rfl (by kernel_rfl) (SOK.skipU rfl) ?_
        refine TV.virt 18 rfl rfl (by decide) rfl (by kernel_rfl) (SOK.skipU rfl) ?_
        refine TV.virt 19 rfl rfl (by decide) rfl (by kernel_rfl) (SOK.skipU rfl) ?_
        refine TV.virt 20 rfl rfl (by decide) rfl (by kernel_rfl) (SOK.skipU rfl) ?_
        refine TV.virt 21 rfl rfl (by decide) rfl (by kernel_rfl) (SOK.skipU rfl) ?_
        refine TV.virt 22 rfl rfl (by decide) rfl (by kernel_rfl) (SOK.skipU rfl) ?_
        refine TV.virt 23 rfl rfl (by decide) rfl (by kernel_rfl) (SOK.skip rfl) ?_
        refine TV.virt 24 rfl rfl (by decide) rfl (by kernel_rfl) (SOK.pure (PV.pickT rfl rfl) rfl) ?_
        refine TV.done (by kernel_rfl) ?_
        refine TQ.thenC ?_
        refine TC.condT rfl ?_
        refine TC.seq ?_
        refine TC.region ?_
        refine TL.pure (PV.assign rfl) rfl (by decide) ?_
        refine TL.nil ?_
        refine TQ.thenC ?_
        refine TC.ret ?_
        refine TQ.blkR ?_
        refine TQ.thenR ?_
        refine TQ.thenR ?_
        refine TQ.blkR ?_
        refine TQ.thenR ?_
        refine TQ.retE1 rfl rfl ?_
        first | exact ⟨(), by rw [set_v a1], trivial, List.nil_sublist _⟩ | (refine ⟨(), ?_, trivial, List.nil_sublist _⟩; rw [set_1 a1 (fun h => by have h9 := h k (by omega); first | (simp at b1; omega) | (have := h9.2 (by omega); omega))]; done) | exact ⟨(), by rw [set_0 a1 (fun j hj => hk.2 j (by omega))], trivial, List.nil_sublist _⟩
      · skip
        refine TV.virt 10 rfl rfl (by decide) rfl (by kernel_rfl) (SOK.pure (PV.move rfl) rfl) ?_
        refine TV.virt 11 rfl rfl (by decide) rfl (by kernel_rfl) (SOK.pure (PV.gtr rfl rfl) rfl) ?_
        refine TV.virt 12 rfl rfl (by decide) rfl (by kernel_rfl) (SOK.pure (PV.move rfl) rfl) ?_
        first | refine TV.splitD 30 rfl (fun b2 => ?_) (fun b2 => ?_) | refine TV.split 30 rfl (fun b2 => ?_) (fun b2 => ?_)
        · skip
          refine TV.virt 13 rfl rfl (by decide) rfl (by kernel_rfl) (SOK.pure (PV.move rfl) rfl) ?_
          refine TV.virt 14 rfl rfl (by decide) rfl (by kernel_rfl) (SOK.pure (PV.move rfl) rfl) ?_
          refine TV.virt 15 rfl rfl (by decide) rfl (by kernel_rfl) (SOK.pure (PV.indexA rfl hq2p rfl Tb.elm_25 rfl (by omega)) rfl) ?_
          refine TV.virt 16 rfl rfl (by decide) rfl (by kernel_rfl) (SOK.pure (PV.loadOld rfl Tb.one_3 hq2) rfl) ?_
          refine TV.virt 17 rfl rfl (by decide) rfl (by kernel_rfl) (SOK.pure (PV.move rfl) rfl) ?_
          refine TV.virt 18 rfl rfl (by decide) rfl (by kernel_rfl) (SOK.pure (PV.move rfl) rfl) ?_
          refine TV.virt 19 rfl rfl (by decide) rfl (by kernel_rfl) (SOK.pure (PV.sub rfl rfl (by omega)) rfl) ?_
          refine TV.virt 20 rfl rfl (by decide) rfl (by kernel_rfl) (SOK.pure (PV.indexA (j := k - 1) rfl hq3p rfl Tb.elm_25 (by omega) (by omega)) rfl) ?_
          refine TV.virt 21 rfl rfl (by decide) rfl (by kernel_rfl) (SOK.pure (PV.loadOld rfl Tb.one_3 hq3) rfl) ?_
          refine TV.virt 22 rfl rfl (by decide) rfl (by kernel_rfl) (SOK.pure (PV.leq rfl rfl) rfl) ?_
          refine TV.virt 23 rfl rfl (by decide) rfl (by kernel_rfl) (SOK.pure (PV.pickT rfl rfl) rfl) ?_
          refine TV.virt 24 rfl rfl (by decide) rfl (by kernel_rfl) (SOK.pure (PV.pickF rfl rfl) rfl) ?_
          refine TV.done (by kernel_rfl) ?_
          refine TQ.thenC ?_
          first | refine TC.condD rfl (fun b3 => ?_) (fun b3 => ?_) | refine TC.cond rfl (fun b3 => ?_) (fun b3 => ?_)
          · skip
            refine TC.seq ?_
            refine TC.region ?_
            refine TL.pure (PV.assign rfl) rfl (by decide) ?_
            refine TL.nil ?_
            refine TQ.thenC ?_
            refine TC.ret ?_
            refine TQ.blkR ?_
            refine TQ.thenR ?_
            refine TQ.thenR ?_
            refine TQ.blkR ?_
            refine TQ.thenR ?_
            refine TQ.retE1 rfl rfl ?_
            first | exact ⟨(), by rw [set_v a1], trivial, List.nil_sublist _⟩ | (refine ⟨(), ?_, trivial, List.nil_sublist _⟩; rw [set_1 a1 (fun h => by have h9 := h k (by omega); first | (simp at b1; omega) | (have := h9.2 (by omega); omega))]; done) | exact ⟨(), by rw [set_0 a1 (fun j hj => hk.2 j (by omega))], trivial, List.nil_sublist _⟩
          · skip
            refine TC.skip ?_
            refine TQ.blkN ?_
            refine TQ.thenC ?_
            have hnk : (0 ≤ xs.getD k 0 ∧ xs.getD k 0 ≤ n - 1) ∧ (0 < k → xs.getD (k - 1) 0 < xs.getD k 0) := by first | (refine ⟨by simpa using b1, fun h => ?_⟩; omega) | (simp at b1; refine ⟨by omega, fun h => ?_⟩; omega)
            refine TC.region ?_
            refine TL.pure (PV.move rfl) rfl (by decide) ?_
            refine TL.pure (PV.add rfl rfl (by omega)) rfl (by decide) ?_
            refine TL.pure (PV.assign rfl) rfl (by decide) ?_
            refine TL.nil ?_
            refine TQ.thenN ?_
            refine TQ.backK (k + 1) (by repeat (first | exact True.intro | refine And.intro rfl ?_)) (by repeat (first | exact True.intro | refine And.intro rfl ?_)) (by repeat (first | exact List.Sublist.slnil | exact List.nil_sublist _ | exact List.Sublist.refl _ | refine List.Sublist.cons_cons _ ?_ | refine List.Sublist.cons _ ?_ | refine List.Sublist.trans ?_ (List.sublist_append_right _ _))) ⟨by omega, fun j hj => if e : j < k then hk.2 j e else (show k = j by omega) ▸ hnk⟩ (by omega)
        · skip
          refine TV.virt 13 rfl rfl (by decide) rfl (by kernel_rfl) (SOK.skip rfl) ?_
          refine TV.virt 14 rfl rfl (by decide) rfl (by kernel_rfl) (SOK.skip rfl) ?_
          refine TV.virt 15 rfl rfl (by decide) rfl (by kernel_rfl) (SOK.skip rfl) ?_
          refine TV.virt 16 rfl rfl (by decide) rfl (by kernel_rfl) (SOK.skip rfl) ?_
          refine TV.virt 17 rfl rfl (by decide) rfl (by kernel_rfl) (SOK.skip rfl) ?_
          refine TV.virt 18 rfl rfl (by decide) rfl (by kernel_rfl) (SOK.skip rfl) ?_
          refine TV.virt 19 rfl rfl (by decide) rfl (by kernel_rfl) (SOK.skip rfl) ?_
          refine TV.virt 20 rfl rfl (by decide) rfl (by kernel_rfl) (SOK.skip rfl) ?_
          refine TV.virt 21 rfl rfl (by decide) rfl (by kernel_rfl) (SOK.skip rfl) ?_
          refine TV.virt 22 rfl rfl (by decide) rfl (by kernel_rfl) (SOK.skip rfl) ?_
          refine TV.virt 23 rfl rfl (by decide) rfl (by kernel_rfl) (SOK.pure (PV.pickF rfl rfl) rfl) ?_
          refine TV.virt 24 rfl rfl (by decide) rfl (by kernel_rfl) (SOK.pure (PV.pickF rfl rfl) rfl) ?_
          refine TV.done (by kernel_rfl) ?_
          refine TQ.thenC ?_
          refine TC.condF rfl ?_
          refine TC.skip ?_
          refine TQ.blkN ?_
          refine TQ.thenC ?_
          have hnk : (0 ≤ xs.getD k 0 ∧ xs.getD k 0 ≤ n - 1) ∧ (0 < k → xs.getD (k - 1) 0 < xs.getD k 0) := by first | (refine ⟨by simpa using b1, fun h => ?_⟩; omega) | (simp at b1; refine ⟨by omega, fun h => ?_⟩; omega)
          refine TC.region ?_
          refine TL.pure (PV.move rfl) rfl (by decide) ?_
          refine TL.pure (PV.add rfl rfl (by omega)) rfl (by decide) ?_
          refine TL.pure (PV.assign rfl) rfl (by decide) ?_
          refine TL.nil ?_
          refine TQ.thenN ?_
          refine TQ.backK (k + 1) (by repeat (first | exact True.intro | refine And.intro rfl ?_)) (by repeat (first | exact True.intro | refine And.intro rfl ?_)) (by repeat (first | exact List.Sublist.slnil | exact List.nil_sublist _ | exact List.Sublist.refl _ | refine List.Sublist.cons_cons _ ?_ | refine List.Sublist.cons _ ?_ | refine List.Sublist.trans ?_ (List.sublist_append_right _ _))) ⟨by omega, fun j hj => if e : j < k then hk.2 j e else (show k = j by omega) ▸ hnk⟩ (by omega)
    · skip
      refine TC.exit ?_
      refine TQ.thenE ?_
      refine TQ.thenE ?_
      refine TQ.blkS ?_
      refine TQ.thenC ?_
      refine TC.seq ?_
      refine TC.region ?_
      refine TL.pure (PV.assign rfl) rfl (by decide) ?_
      refine TL.nil ?_
      refine TQ.thenC ?_
      refine TC.ret ?_
      refine TQ.retE1 rfl rfl ?_
      first | exact ⟨(), by rw [set_v a1], trivial, List.nil_sublist _⟩ | (refine ⟨(), ?_, trivial, List.nil_sublist _⟩; rw [set_1 a1 (fun h => by have h9 := h k (by omega); first | (simp at b1; omega) | (have := h9.2 (by omega); omega))]; done) | exact ⟨(), by rw [set_0 a1 (fun j hj => hk.2 j (by omega))], trivial, List.nil_sublist _⟩

set_option maxRecDepth 100000 in
set_option maxHeartbeats 1000000 in
theorem siphonic_ok (w0 : World) (n : Int) (p : Option Addr) (cp : Nat) (ss : List St) (hr : StsAt w0 p ss) (hS : SmS ss) (hV : VY n ss) (vx : Value) (xs : List Int) (hv : IsI w0 vx xs) (hl : xs.length ≤ 1000000) (hin : InP n xs) :
    Calls Try.prog 100 #[yv n p ss.length cp, vx] w0 (Post (X := Unit) (fun _ => .bool (sipB ss xs)) (fun _ => True) (fun _ => []) w0) := by
  obtain ⟨pl, cl, rfl, hx⟩ := hv
  have hsl := hV.len
  refine calls Try.func100 rfl (n := 32) rfl (by simp) ?_
  refine TC.seq ?_
  refine TC.region ?_
  refine TL.box rfl rfl (by decide) (fun b0 hb0 => ?_)
  refine TL.pure (PV.assign rfl) rfl (by decide) ?_
  refine TL.nil ?_
  refine TQ.thenC ?_
  refine TC.seq ?_
  refine TC.seq ?_
  refine TC.region ?_
  refine TL.pure (PV.assign rfl) rfl (by decide) ?_
  refine TL.nil ?_
  refine TQ.thenC ?_
  refine TC.block ?_
  -- live and written in the loop, not told: [4]
  refine TC.loopG [1, 2] (X := Nat) (fun k => k ≤ ss.length ∧ ∀ j, j < k → brk (ss.getD j default) xs = false) (fun k => [(5, .int .i64 k)]) (fun k => ss.length - k) 0 ⟨Nat.zero_le _, fun j hj => absurd hj (Nat.not_lt_zero _)⟩ (by repeat (first | exact True.intro | refine And.intro rfl ?_)) ?_
  intro k hk
  refine TC.seq ?_
  refine TC.seq ?_
  refine TC.region ?_
  refine TL.pure (PV.move rfl) rfl (by decide) ?_
  refine TL.pure (PV.fieldAddr rfl Tb.fo_24_1) rfl (by decide) ?_
  refine TL.pure (PV.load rfl Tb.one_22 (by repeat (first | exact List.Mem.head _ | refine List.Mem.tail _ ?_ | refine List.mem_append_right _ ?_)) rfl) rfl (by decide) ?_
  refine TL.pure (PV.len rfl Tb.sl_22) rfl (by decide) ?_
  refine TL.pure (PV.lss rfl rfl) rfl (by decide) ?_
  refine TL.nil ?_
  refine TQ.thenC ?_
  first | refine TC.condD rfl (fun hlt => ?_) (fun hlt => ?_) | refine TC.cond rfl (fun hlt => ?_) (fun hlt => ?_)
  · skip
    refine TC.skip ?_
    refine TQ.thenC ?_
    refine TC.seq ?_
    refine TC.block ?_
    refine TC.seq ?_
    have hk9 : k < ss.length := by omega
    obtain ⟨q1, hq1p, pa, pb, ca, cb, hq10, hq11, hta, htb⟩ := hr k (by omega)
    refine TC.region ?_
    refine TL.pure (PV.fieldAddr rfl Tb.fo_24_1) rfl (by decide) ?_
    refine TL.pure (PV.load rfl Tb.one_22 (by repeat (first | exact List.Mem.head _ | refine List.Mem.tail _ ?_ | refine List.mem_append_right _ ?_)) rfl) rfl (by decide) ?_
    refine TL.pure (PV.move rfl) rfl (by decide) ?_
    refine TL.pure (PV.indexA rfl hq1p rfl Tb.elm_22 rfl (by omega)) rfl (by decide) ?_
    refine TL.pure (PV.fieldAddrA rfl Tb.fo_63_1) rfl (by decide) ?_
    refine TL.pure (PV.loadOld rfl Tb.one_25 hq11) rfl (by decide) ?_
    refine TL.pure (PV.move rfl) rfl (by decide) ?_
    refine TL.call rfl Tb.gofn_112 (fun a w hs => touches_ok w _ _ _ (htb.new hs.new) _ _ _ (hx.new hs.new) hl (by rw [(hV.tl hk9).2]; exact hin)) rfl (by decide) (fun _ _ => ?_)
    refine TL.pure (PV.move rfl) rfl (by decide) ?_
    first | refine TL.splitD 21 rfl (fun b1 => ?_) (fun b1 => ?_) | refine TL.split 21 rfl (fun b1 => ?_) (fun b1 => ?_)
    · skip
      refine TL.pure (PV.fieldAddr rfl Tb.fo_24_1) rfl (by decide) ?_
      refine TL.pure (PV.load rfl Tb.one_22 (by repeat (first | exact List.Mem.head _ | refine List.Mem.tail _ ?_ | refine List.mem_append_right _ ?_)) rfl) rfl (by decide) ?_
      refine TL.pure (PV.move rfl) rfl (by decide) ?_
      refine TL.pure (PV.indexA rfl hq1p rfl Tb.elm_22 rfl (by omega)) rfl (by decide) ?_
      refine TL.pure (PV.fieldAddrA rfl Tb.fo_63_0) rfl (by decide) ?_
      refine TL.pure (PV.loadOld rfl Tb.one_25 hq10) rfl (by decide) ?_
      refine TL.pure (PV.move rfl) rfl (by decide) ?_
      refine TL.call rfl Tb.gofn_112 (fun a w hs => touches_ok w _ _ _ (hta.new hs.new) _ _ _ (hx.new hs.new) hl (by rw [(hV.tl hk9).1]; exact hin)) rfl (by decide) (fun _ _ => ?_)
      refine TL.pure ((by first | exact PV.notD rfl | exact PV.not rfl)) rfl (by decide) ?_
      refine TL.pure (PV.pickT rfl rfl) rfl (by decide) ?_
      refine TL.nil ?_
      refine TQ.thenC ?_
      first | refine TC.condD rfl (fun b2 => ?_) (fun b2 => ?_) | refine TC.cond rfl (fun b2 => ?_) (fun b2 => ?_)
      · skip
        refine TC.seq ?_
        refine TC.region ?_
        refine TL.pure (PV.assign rfl) rfl (by decide) ?_
        refine TL.nil ?_
        refine TQ.thenC ?_
        refine TC.ret ?_
        refine TQ.blkR ?_
        refine TQ.thenR ?_
        refine TQ.thenR ?_
        refine TQ.blkR ?_
        refine TQ.thenR ?_
        refine TQ.retE1 rfl rfl ?_
        exact ⟨(), by unfold sipB; rw [any_yes (f := fun s => brk s xs) (k := k) (d := default) (by omega) (by rw [brk_and rfl b1]; simpa using b2)]; rfl, trivial, List.nil_sublist _⟩
      · skip
        refine TC.skip ?_
        refine TQ.blkN ?_
        refine TQ.thenC ?_
        have hnk : brk (ss.getD k default) xs = false := by first | exact brk_no b1 | (rw [brk_and rfl b1]; simpa using b2)
        refine TC.region ?_
        refine TL.pure (PV.move rfl) rfl (by decide) ?_
        refine TL.pure (PV.add rfl rfl (by omega)) rfl (by decide) ?_
        refine TL.pure (PV.assign rfl) rfl (by decide) ?_
        refine TL.nil ?_
        refine TQ.thenN ?_
        refine TQ.backK (k + 1) (by repeat (first | exact True.intro | refine And.intro rfl ?_)) (by repeat (first | exact True.intro | refine And.intro rfl ?_)) (by repeat (first | exact List.Sublist.slnil | exact List.nil_sublist _ | exact List.Sublist.refl _ | refine List.Sublist.cons_cons _ ?_ | refine List.Sublist.cons _ ?_ | refine List.Sublist.trans ?_ (List.sublist_append_right _ _))) ⟨by omega, fun j hj => if e : j < k then hk.2 j e else (show k = j by omega) ▸ hnk⟩ (by omega)
    · skip
      refine TL.skip rfl (fun k hk => by cases hk; decide) ?_
      refine TL.skip rfl (fun k hk => by cases hk; decide) ?_
      refine TL.skip rfl (fun k hk => by cases hk; decide) ?_
      refine TL.skip rfl (fun k hk => by cases hk; decide) ?_
      refine TL.skip rfl (fun k hk => by cases hk; decide) ?_
      refine TL.skip rfl (fun k hk => by cases hk; decide) ?_
      refine TL.skip rfl (fun k hk => by cases hk; decide) ?_
      refine TL.skip rfl (fun k hk => by cases hk; decide) ?_
      refine TL.skip rfl (fun k hk => by cases hk; decide) ?_
      refine TL.pure (PV.pickF rfl rfl) rfl (by decide) ?_
      refine TL.nil ?_
      refine TQ.thenC ?_
      refine TC.condF rfl ?_
      refine TC.skip ?_
      refine TQ.blkN ?_
      refine TQ.thenC ?_
      have hnk : brk (ss.getD k default) xs = false := by first | exact brk_no b1 | (rw [brk_and rfl b1]; simpa using b2)
      refine TC.region ?_
      refine TL.pure (PV.move rfl) rfl (by decide) ?_
      refine TL.pure (PV.add rfl rfl (by omega)) rfl (by decide) ?_
      refine TL.pure (PV.assign rfl) rfl (by decide) ?_
      refine TL.nil ?_
      refine TQ.thenN ?_
      refine TQ.backK (k + 1) (by repeat (first | exact True.intro | refine And.intro rfl ?_)) (by repeat (first | exact True.intro | refine And.intro rfl ?_)) (by repeat (first | exact List.Sublist.slnil | exact List.nil_sublist _ | exact List.Sublist.refl _ | refine List.Sublist.cons_cons _ ?_ | refine List.Sublist.cons _ ?_ | refine List.Sublist.trans ?_ (List.sublist_append_right _ _))) ⟨by omega, fun j hj => if e : j < k then hk.2 j e else (show k = j by omega) ▸ hnk⟩ (by omega)
  · skip
    refine TC.exit ?_
    refine TQ.thenE ?_
    refine TQ.thenE ?_
    refine TQ.blkS ?_
    refine TQ.thenC ?_
    refine TC.seq ?_
    refine TC.region ?_
    refine TL.pure (PV.assign rfl) rfl (by decide) ?_
    refine TL.nil ?_
    refine TQ.thenC ?_
    refine TC.ret ?_
    refine TQ.retE1 rfl rfl ?_
    exact ⟨(), by unfold sipB; rw [any_no (f := fun s => brk s xs) (d := default) (fun j hj => hk.2 j (by omega))]; rfl, trivial, List.nil_sublist _⟩

end Go.Proofs.Ytkkipbkkijoneaa
