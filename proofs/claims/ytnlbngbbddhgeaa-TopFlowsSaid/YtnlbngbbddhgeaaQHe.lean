/- Rounds that are found: contracts. -/
import Derived.Test.YtnlbngbbddhgeaaQGw
import Derived.Test.YtnlbngbbddhgeaaQPr
import Derived.Test.YtnlbngbbddhgeaaQFc
set_option linter.unusedVariables false
set_option linter.unusedSimpArgs false
namespace Go.Proofs.Ytnlbngbbddhgeaa
open Go.Sx Go.RowKit


section
variable {P : Program} {n : Nat} {w0 : World} {E : Env} {G : Heap} {d : Option Nat} {ty : TypeId} {pos : String} {aft : Array Edge} {g : Option (Nat × Bool)}
theorem PV.sliceL1 {x y : Operand} {b len cap e l : Nat} {i : Int} {t : Nat} (hx : evo E x = some (.slice (some ⟨b, 0, none⟩) len cap)) (hy : evo E y = some (.int .i64 i))
    (ht : elemOf' P t = some (e, 1)) (hi : i = (l : Int)) (hl : l ≤ len) (hc : l < cap) : PV P n w0 E G ⟨d, .slice t x (some y) none none, ty, pos, aft, g⟩ (.slice (some ⟨b, l, none⟩) (len - l) (cap - l)) := by
  have h := PV.sliceL (P := P) (n := n) (w0 := w0) (G := G) (d := d) (ty := ty) (pos := pos) (aft := aft) (g := g) hx hy ht hi hl
  have e0 : cutA (some ⟨b, 0, none⟩) cap l 1 = some ⟨b, l, none⟩ := by unfold cutA; rw [if_neg (by omega)]; simp [add_off]
  rw [e0] at h
  exact h

theorem app_get {ys : List Int} {s : List Value} {j : Nat} (hj : j < ys.length) : (ys.map (Value.int .i64) ++ s).toArray[j]? = some (.int .i64 (ys.getD j 0)) := by
  simp [List.getElem?_append_left, hj, List.getD]
theorem PV.loadGI {x : Operand} {j t : Nat} {y : HD × List Int} {v : Int} (hx : evo E x = some (.pointer (some ⟨(y.1.map (·.1)).getD 0, j * 1, none⟩))) (ht : oneB P t = true)
    (hm : ∀ q ∈ gbI y, q ∈ G) (hok : goI y) (hj : j < y.2.length) (hv : y.2.getD j 0 = v) : PV P n w0 E G ⟨d, .load t x, ty, pos, aft, g⟩ (.int .i64 v) := by
  subst hv
  obtain ⟨h, l⟩ := y
  cases h with
  | none => exact absurd hok.2 (by simp only [List.length_map] at hj ⊢; omega)
  | some hh =>
    obtain ⟨b, cap, sp⟩ := hh
    simp only [Option.map_some, Option.getD_some, Nat.mul_one] at hx
    exact PV.loadG' hx ht (hm _ (.head _)) (app_get hj)

end
section
variable {P : Program} {n : Nat} {w0 : World} {E : Env} {G : Heap} {ty : TypeId} {pos : String} {aft : Array Edge} {g : Option (Nat × Bool)}
theorem TL.callFN {ops : Array Oper} {Q : Exit → Act → World → Prop} {l : List Oper} {d f k : Nat} {xs : List Operand} {ats : Array TypeId} {vs caps : List Value} (v : Value) (hf : Sx.look k E = some (.func (.func f) #[] caps.toArray)) (hx : evs E xs = some vs) (hfn : goFn P f = true)
    (hc : ∀ a w, S n w0 E G a w → Calls P f (vs ++ caps).toArray w (Post (X := Unit) (fun _ => v) (fun _ => True) (fun _ => []) w)) (hg : wants ops E g = some true) (hd : d < n) (h : TL P n w0 ops Q l ((d, v) :: E) G) :
    TL P n w0 ops Q (⟨some d, .call { callee := .value (.tmp k), args := xs.toArray, argTypes := ats }, ty, pos, aft, g⟩ :: l) E G :=
  TL.callF (X := Unit) (fun _ => v) (fun _ => True) (fun _ => G) hf hx hfn (fun a w hs => (hc a w hs).mono fun e w' ⟨x, h1, h2, h3⟩ => ⟨(), h1, trivial, by have := hs.new.trans h3; exact this⟩) hg hd (fun _ _ => h)
end
/-- The first number with a property, or -1. -/
def FindP (N : Nat) (g : Nat → Bool) (i : Int) : Prop := (i = -1 ∧ ∀ j, j < N → g j = false) ∨ ∃ k : Nat, k < N ∧ i = k ∧ g k = true ∧ ∀ j, j < k → g j = false
theorem FindP.none {N : Nat} {g : Nat → Bool} {i : Int} (h : FindP N g i) (hi : i < 0) : ∀ j, j < N → g j = false := by
  rcases h with h | ⟨k, h1, h2, _⟩
  · exact h.2
  · omega
theorem FindP.some {N : Nat} {g : Nat → Bool} {i : Int} (h : FindP N g i) (hi : ¬ i < 0) : ∃ k : Nat, k < N ∧ i = k ∧ g k = true := by
  rcases h with h | ⟨k, h1, h2, h3, _⟩
  · omega
  · exact ⟨k, h1, h2, h3⟩
theorem FindP.ex {N : Nat} {g : Nat → Bool} {i : Int} (h : FindP N g i) {j : Nat} (hj : j < N) (hg : g j = true) : ∃ k : Nat, k < N ∧ i = k ∧ g k = true := by
  rcases h with h | ⟨k, h1, h2, h3, _⟩
  · have := h.2 j hj; rw [hg] at this; cases this
  · exact ⟨k, h1, h2, h3⟩
def nI (ks : List Nat) : List Int := ks.map fun k : Nat => (k : Int)
theorem nI_len (ks : List Nat) : (nI ks).length = ks.length := by simp [nI]
theorem nI_get {ks : List Nat} {j : Nat} (h : j < ks.length) : (nI ks).getD j 0 = (ks.getD j 0 : Nat) := by simp [nI, List.getD, h]
theorem nI_app (ks : List Nat) (k : Nat) : nI (ks ++ [k]) = nI ks ++ [(k : Int)] := by simp [nI]
structure RW where
  b : Nat
  cap : Nat
  sp : List Value
  W : List Nat
  i : Nat
def rwV : Option RW → Value
  | none => .slice none 0 0
  | some y => .slice (some ⟨y.b, y.i, none⟩) (y.W.length - y.i) (y.cap - y.i)
def rwF (L : List Fl.E) : Option RW → Prop
  | none => ∀ k, k < L.length → (L.getD k default).r ≤ 0
  | some y => y.i < y.W.length ∧ Fl.Rnd L (y.W.drop y.i) ∧ y.W.length ≤ 8 ∧ goI (some (y.b, y.cap, y.sp), nI y.W)
def rwD : Option RW → Heap
  | none => []
  | some y => gbI (some (y.b, y.cap, y.sp), nI y.W)


set_option maxRecDepth 100000 in
theorem runs_ok (w0 : World) (e : Fl.E) :
    Calls Try.prog 95 #[.agg (e4 e).toArray] w0 (Post (X := Unit) (fun _ => .bool (decide (0 < e.r))) (fun _ => True) (fun _ => []) w0) := by
  refine calls Try.func95 rfl (n := 6) rfl (by simp) ?_
  refine TC.seq ?_
  refine TC.region ?_
  refine TL.box rfl rfl (by decide) (fun b0 hb0 => ?_)
  refine TL.pure (PV.assign rfl) rfl (by decide) ?_
  refine TL.nil ?_
  refine TQ.thenC ?_
  refine TC.seq ?_
  refine TC.region ?_
  refine TL.pure (PV.fieldAddr rfl Tb.fo_92_1) rfl (by decide) ?_
  refine TL.pure (PV.load rfl Tb.one_3 (by repeat (first | exact List.Mem.head _ | refine List.Mem.tail _ ?_ | refine List.mem_append_right _ ?_)) rfl) rfl (by decide) ?_
  refine TL.pure (PV.gtr rfl rfl) rfl (by decide) ?_
  refine TL.pure (PV.assign rfl) rfl (by decide) ?_
  refine TL.nil ?_
  refine TQ.thenC ?_
  refine TC.ret ?_
  refine TQ.retE1 rfl rfl ?_
  exact ⟨(), rfl, trivial, List.nil_sublist _⟩

set_option maxRecDepth 100000 in
theorem from_ok (w0 : World) (e : Fl.E) (pa : Addr) (v : Nat) (ha : w0.cell? pa = some (.int .i64 (v : Nat))) :
    Calls Try.prog 98 #[.agg (e4 e).toArray, .pointer (some pa)] w0 (Post (X := Unit) (fun _ => .bool (decide (e.f = v ∧ 0 < e.r))) (fun _ => True) (fun _ => []) w0) := by
  refine calls Try.func98 rfl (n := 14) rfl (by simp) ?_
  refine TC.seq ?_
  refine TC.region ?_
  refine TL.box rfl rfl (by decide) (fun b0 hb0 => ?_)
  refine TL.pure (PV.assign rfl) rfl (by decide) ?_
  refine TL.nil ?_
  refine TQ.thenC ?_
  refine TC.seq ?_
  refine TC.region ?_
  refine TL.pure (PV.fieldAddr rfl Tb.fo_92_0) rfl (by decide) ?_
  refine TL.pure (PV.fieldAddr rfl Tb.fo_40_0) rfl (by decide) ?_
  refine TL.pure (PV.load rfl Tb.one_3 (by repeat (first | exact List.Mem.head _ | refine List.Mem.tail _ ?_ | refine List.mem_append_right _ ?_)) rfl) rfl (by decide) ?_
  refine TL.pure (PV.loadOld rfl Tb.one_3 ha) rfl (by decide) ?_
  refine TL.pure (PV.eql rfl rfl) rfl (by decide) ?_
  refine TL.pure (PV.move rfl) rfl (by decide) ?_
  first | refine TL.splitD 9 rfl (fun a1 => ?_) (fun a1 => ?_) | refine TL.split 9 rfl (fun a1 => ?_) (fun a1 => ?_)
  · skip
    refine TL.pure (PV.fieldAddr rfl Tb.fo_92_1) rfl (by decide) ?_
    refine TL.pure (PV.load rfl Tb.one_3 (by repeat (first | exact List.Mem.head _ | refine List.Mem.tail _ ?_ | refine List.mem_append_right _ ?_)) rfl) rfl (by decide) ?_
    refine TL.pure (PV.gtr rfl rfl) rfl (by decide) ?_
    refine TL.pure (PV.pickT rfl rfl) rfl (by decide) ?_
    refine TL.pure (PV.assign rfl) rfl (by decide) ?_
    refine TL.nil ?_
    refine TQ.thenC ?_
    refine TC.ret ?_
    refine TQ.retE1 rfl rfl ?_
    exact ⟨(), congrArg Value.bool (by first | (rw [decide_eq_decide]; omega) | (symm; exact decide_eq_false (by omega))), trivial, List.nil_sublist _⟩
  · skip
    refine TL.skip rfl (fun k hk => by cases hk; decide) ?_
    refine TL.skip rfl (fun k hk => by cases hk; decide) ?_
    refine TL.skip rfl (fun k hk => by cases hk; decide) ?_
    refine TL.pure (PV.pickF rfl rfl) rfl (by decide) ?_
    refine TL.pure (PV.assign rfl) rfl (by decide) ?_
    refine TL.nil ?_
    refine TQ.thenC ?_
    refine TC.ret ?_
    refine TQ.retE1 rfl rfl ?_
    exact ⟨(), congrArg Value.bool (by first | (rw [decide_eq_decide]; omega) | (symm; exact decide_eq_false (by omega))), trivial, List.nil_sublist _⟩

set_option maxRecDepth 100000 in
theorem at_ok (w0 : World) (p : Option Addr) (c K : Nat) (L : List Fl.E) (hK : L.length = K) (hr : RecsAt R4 w0 p L) (hKl : K ≤ 100) (k : Nat) (hk : k < L.length) (ps pa : Addr) (v : Nat) (hps : w0.cell? ps = some (.slice p K c)) (ha : w0.cell? pa = some (.int .i64 (v : Nat))) :
    Calls Try.prog 97 #[.int .i64 (k : Nat), .pointer (some ps), .pointer (some pa)] w0 (Post (X := Unit) (fun _ => .bool (decide ((L.getD k default).f = v))) (fun _ => True) (fun _ => []) w0) := by
  obtain ⟨q, hqp, hq⟩ := hr k hk
  refine calls Try.func97 rfl (n := 13) rfl (by simp) ?_
  refine TC.seq ?_
  refine TC.region ?_
  refine TL.pure (PV.assign rfl) rfl (by decide) ?_
  refine TL.nil ?_
  refine TQ.thenC ?_
  refine TC.seq ?_
  refine TC.mixV [true, true, true, true, true, true, true, true, true] [] 9 Tb.mixed rfl (by kernel_rfl) (by kernel_rfl) (by kernel_rfl) (by kernel_rfl) (by repeat (first | exact List.Sublist.slnil | exact List.nil_sublist _ | exact List.Sublist.refl _ | refine List.Sublist.cons_cons _ ?_ | refine List.Sublist.cons _ ?_ | refine List.Sublist.trans ?_ (List.sublist_append_right _ _))) ?_
  refine TV.virt 0 rfl rfl (by decide) rfl (by kernel_rfl) (SOK.pure (PV.loadOld rfl Tb.one_65 hps) rfl) ?_
  refine TV.virt 1 rfl rfl (by decide) rfl (by kernel_rfl) (SOK.pure (PV.move rfl) rfl) ?_
  refine TV.virt 2 rfl rfl (by decide) rfl (by kernel_rfl) (SOK.pure (PV.indexA (j := k) rfl hqp rfl Tb.elm_65 rfl (by omega)) rfl) ?_
  refine TV.virt 3 rfl rfl (by decide) rfl (by kernel_rfl) (SOK.pure (PV.fieldAddrA rfl Tb.fo_92_0) rfl) ?_
  refine TV.virt 4 rfl rfl (by decide) rfl (by kernel_rfl) (SOK.pure (PV.fieldAddrA rfl Tb.fo_40_0) rfl) ?_
  refine TV.virt 5 rfl rfl (by decide) rfl (by kernel_rfl) (SOK.pure (PV.loadOld rfl Tb.one_3 (by rw [addr_add_add]; exact hq 0 _ rfl)) rfl) ?_
  refine TV.virt 6 rfl rfl (by decide) rfl (by kernel_rfl) (SOK.pure (PV.loadOld rfl Tb.one_3 ha) rfl) ?_
  refine TV.virt 7 rfl rfl (by decide) rfl (by kernel_rfl) (SOK.pure (PV.eql rfl rfl) rfl) ?_
  refine TV.virt 8 rfl rfl (by decide) rfl (by kernel_rfl) (SOK.pure (PV.assign rfl) rfl) ?_
  refine TV.done (by kernel_rfl) ?_
  refine TQ.thenC ?_
  refine TC.ret ?_
  refine TQ.retE1 rfl rfl ?_
  exact ⟨(), congrArg Value.bool (by rw [decide_eq_decide]; omega), trivial, List.nil_sublist _⟩

set_option maxRecDepth 100000 in
set_option maxHeartbeats 1000000 in
theorem indexR_ok (w0 : World) (p : Option Addr) (c K : Nat) (L : List Fl.E) (hK : L.length = K) (hr : RecsAt R4 w0 p L) (hKl : K ≤ 100) (fid : Nat) (caps : List Value) (g : Fl.E → Bool) (hfn : goFn Try.prog fid = true) (hc : ∀ (w : World), New w0 w [] → ∀ j, j < L.length → Calls Try.prog fid ([Value.agg (e4 (L.getD j default)).toArray] ++ caps).toArray w (Post (X := Unit) (fun _ => .bool (g (L.getD j default))) (fun _ => True) (fun _ => []) w)) :
    Calls Try.prog 94 #[.slice p K c, .func (.func fid) #[] caps.toArray] w0 (Post (X := Int) (fun i => .int .i64 i) (FindP L.length fun j => g (L.getD j default)) (fun _ => []) w0) := by
  subst hK
  refine calls Try.func94 rfl (n := 19) rfl (by simp) ?_
  refine TC.seq ?_
  refine TC.region ?_
  refine TL.pure (PV.assign rfl) rfl (by decide) ?_
  refine TL.nil ?_
  refine TQ.thenC ?_
  refine TC.seq ?_
  refine TC.seq ?_
  refine TC.region ?_
  refine TL.pure (PV.move rfl) rfl (by decide) ?_
  refine TL.pure (PV.len rfl Tb.sl_65) rfl (by decide) ?_
  refine TL.pure (PV.move rfl) rfl (by decide) ?_
  refine TL.nil ?_
  refine TQ.thenC ?_
  refine TC.block ?_
  -- live and written in the loop, not told: [4]
  refine TC.loopK [0, 1, 7] (X := Nat) (fun k => k ≤ L.length ∧ ∀ j, j < k → (fun j => g (L.getD j default)) j = false) (fun k => [(8, .int .i64 (k : Nat))]) (fun k => []) (fun k => L.length - k) 0 ⟨Nat.zero_le _, fun j h => absurd h (Nat.not_lt_zero _)⟩ (by repeat (first | exact True.intro | refine And.intro rfl ?_)) (by repeat (first | exact List.Sublist.slnil | exact List.nil_sublist _ | exact List.Sublist.refl _ | refine List.Sublist.cons_cons _ ?_ | refine List.Sublist.cons _ ?_ | refine List.Sublist.trans ?_ (List.sublist_append_right _ _))) ?_
  intro k hk
  refine TC.seq ?_
  refine TC.region ?_
  refine TL.pure (PV.lss rfl rfl) rfl (by decide) ?_
  refine TL.nil ?_
  refine TQ.thenC ?_
  refine TC.seq ?_
  first | refine TC.condD rfl (fun hlt => ?_) (fun hlt => ?_) | refine TC.cond rfl (fun hlt => ?_) (fun hlt => ?_)
  · skip
    refine TC.skip ?_
    refine TQ.thenC ?_
    refine TC.seq ?_
    refine TC.block ?_
    refine TC.seq ?_
    obtain ⟨q, hqp, hq⟩ := hr k (by omega)
    refine TC.region ?_
    refine TL.pure (PV.move rfl) rfl (by decide) ?_
    refine TL.pure (PV.assign rfl) rfl (by decide) ?_
    refine TL.nil ?_
    refine TQ.thenC ?_
    refine TC.seq ?_
    refine TC.region ?_
    refine TL.pure (PV.move rfl) rfl (by decide) ?_
    refine TL.pure (PV.move rfl) rfl (by decide) ?_
    refine TL.pure (PV.move rfl) rfl (by decide) ?_
    refine TL.pure (PV.indexA rfl hqp rfl Tb.elm_65 rfl (by omega)) rfl (by decide) ?_
    refine TL.pure (PV.loadAggA (vs := e4 (L.getD k default)) rfl Tb.agg_92 rfl hq) rfl (by decide) ?_
    refine TL.callFN (f := fid) (k := 11) (vs := [.agg (e4 (L.getD k default)).toArray]) (caps := caps) (.bool (g (L.getD k default))) rfl rfl hfn (fun a w hs => hc w (hs.new.sub (List.nil_sublist _)) k (by omega)) rfl (by decide) ?_
    refine TL.nil ?_
    refine TQ.thenC ?_
    first | refine TC.condD rfl (fun hit => ?_) (fun hit => ?_) | refine TC.cond rfl (fun hit => ?_) (fun hit => ?_)
    · skip
      refine TC.seq ?_
      refine TC.region ?_
      refine TL.pure (PV.move rfl) rfl (by decide) ?_
      refine TL.pure (PV.assign rfl) rfl (by decide) ?_
      refine TL.nil ?_
      refine TQ.thenC ?_
      refine TC.ret ?_
      refine TQ.blkR ?_
      refine TQ.thenR ?_
      refine TQ.thenR ?_
      refine TQ.blkR ?_
      refine TQ.thenR ?_
      refine TQ.retE1 rfl rfl ?_
      exact ⟨(k : Int), rfl, .inr ⟨k, by omega, rfl, hit, hk.2⟩, List.nil_sublist _⟩
    · skip
      refine TC.skip ?_
      refine TQ.blkN ?_
      refine TQ.thenC ?_
      refine TC.region ?_
      refine TL.pure (PV.add rfl rfl (by omega)) rfl (by decide) ?_
      refine TL.pure (PV.move rfl) rfl (by decide) ?_
      refine TL.nil ?_
      refine TQ.thenN ?_
      refine TQ.backK (k + 1) (by repeat (first | exact True.intro | refine And.intro rfl ?_)) (by repeat (first | exact True.intro | refine And.intro rfl ?_)) (by repeat (first | exact List.Sublist.slnil | exact List.nil_sublist _ | exact List.Sublist.refl _ | refine List.Sublist.cons_cons _ ?_ | refine List.Sublist.cons _ ?_ | refine List.Sublist.trans ?_ (List.sublist_append_right _ _))) ⟨by omega, fun j hj => by
        by_cases e9 : j = k
        · subst e9; exact hit
        · exact hk.2 j (by omega)⟩ (by omega)
  · skip
    refine TC.exit ?_
    refine TQ.thenE ?_
    refine TQ.thenE ?_
    refine TQ.blkS ?_
    refine TQ.thenC ?_
    refine TC.seq ?_
    have hke : k = L.length := by omega
    refine TC.region ?_
    refine TL.pure (PV.assign rfl) rfl (by decide) ?_
    refine TL.nil ?_
    refine TQ.thenC ?_
    refine TC.ret ?_
    refine TQ.retE1 rfl rfl ?_
    exact ⟨-1, rfl, .inl ⟨rfl, fun j hj => hk.2 j (by omega)⟩, List.nil_sublist _⟩

set_option maxRecDepth 100000 in
set_option maxHeartbeats 1000000 in
theorem indexI_ok (w0 : World) (vx : Value) (xs : List Int) (hv : IsI w0 vx xs) (hl : xs.length ≤ 1000000) (fid : Nat) (caps : List Value) (g : Int → Bool) (hfn : goFn Try.prog fid = true) (hc : ∀ (w : World), New w0 w [] → ∀ j, j < xs.length → Calls Try.prog fid ([Value.int .i64 (xs.getD j 0)] ++ caps).toArray w (Post (X := Unit) (fun _ => .bool (g (xs.getD j 0))) (fun _ => True) (fun _ => []) w)) :
    Calls Try.prog 96 #[vx, .func (.func fid) #[] caps.toArray] w0 (Post (X := Int) (fun i => .int .i64 i) (FindP xs.length fun j => g (xs.getD j 0)) (fun _ => []) w0) := by
  obtain ⟨p1, c1, rfl, hr⟩ := hv
  refine calls Try.func96 rfl (n := 19) rfl (by simp) ?_
  refine TC.seq ?_
  refine TC.region ?_
  refine TL.pure (PV.assign rfl) rfl (by decide) ?_
  refine TL.nil ?_
  refine TQ.thenC ?_
  refine TC.seq ?_
  refine TC.seq ?_
  refine TC.region ?_
  refine TL.pure (PV.move rfl) rfl (by decide) ?_
  refine TL.pure (PV.len rfl Tb.sl_25) rfl (by decide) ?_
  refine TL.pure (PV.move rfl) rfl (by decide) ?_
  refine TL.nil ?_
  refine TQ.thenC ?_
  refine TC.block ?_
  -- live and written in the loop, not told: [4]
  refine TC.loopK [0, 1, 7] (X := Nat) (fun k => k ≤ xs.length ∧ ∀ j, j < k → (fun j => g (xs.getD j 0)) j = false) (fun k => [(8, .int .i64 (k : Nat))]) (fun k => []) (fun k => xs.length - k) 0 ⟨Nat.zero_le _, fun j h => absurd h (Nat.not_lt_zero _)⟩ (by repeat (first | exact True.intro | refine And.intro rfl ?_)) (by repeat (first | exact List.Sublist.slnil | exact List.nil_sublist _ | exact List.Sublist.refl _ | refine List.Sublist.cons_cons _ ?_ | refine List.Sublist.cons _ ?_ | refine List.Sublist.trans ?_ (List.sublist_append_right _ _))) ?_
  intro k hk
  refine TC.seq ?_
  refine TC.region ?_
  refine TL.pure (PV.lss rfl rfl) rfl (by decide) ?_
  refine TL.nil ?_
  refine TQ.thenC ?_
  refine TC.seq ?_
  first | refine TC.condD rfl (fun hlt => ?_) (fun hlt => ?_) | refine TC.cond rfl (fun hlt => ?_) (fun hlt => ?_)
  · skip
    refine TC.skip ?_
    refine TQ.thenC ?_
    refine TC.seq ?_
    refine TC.block ?_
    refine TC.seq ?_
    obtain ⟨q, hqp, hq⟩ := hr k (by omega)
    refine TC.region ?_
    refine TL.pure (PV.move rfl) rfl (by decide) ?_
    refine TL.pure (PV.assign rfl) rfl (by decide) ?_
    refine TL.nil ?_
    refine TQ.thenC ?_
    refine TC.seq ?_
    refine TC.region ?_
    refine TL.pure (PV.move rfl) rfl (by decide) ?_
    refine TL.pure (PV.move rfl) rfl (by decide) ?_
    refine TL.pure (PV.move rfl) rfl (by decide) ?_
    refine TL.pure (PV.indexA rfl hqp rfl Tb.elm_25 rfl (by omega)) rfl (by decide) ?_
    refine TL.pure (PV.loadOld rfl Tb.one_3 hq) rfl (by decide) ?_
    refine TL.callFN (f := fid) (k := 11) (vs := [.int .i64 (xs.getD k 0)]) (caps := caps) (.bool (g (xs.getD k 0))) rfl rfl hfn (fun a w hs => hc w (hs.new.sub (List.nil_sublist _)) k (by omega)) rfl (by decide) ?_
    refine TL.nil ?_
    refine TQ.thenC ?_
    first | refine TC.condD rfl (fun hit => ?_) (fun hit => ?_) | refine TC.cond rfl (fun hit => ?_) (fun hit => ?_)
    · skip
      refine TC.seq ?_
      refine TC.region ?_
      refine TL.pure (PV.move rfl) rfl (by decide) ?_
      refine TL.pure (PV.assign rfl) rfl (by decide) ?_
      refine TL.nil ?_
      refine TQ.thenC ?_
      refine TC.ret ?_
      refine TQ.blkR ?_
      refine TQ.thenR ?_
      refine TQ.thenR ?_
      refine TQ.blkR ?_
      refine TQ.thenR ?_
      refine TQ.retE1 rfl rfl ?_
      exact ⟨(k : Int), rfl, .inr ⟨k, by omega, rfl, hit, hk.2⟩, List.nil_sublist _⟩
    · skip
      refine TC.skip ?_
      refine TQ.blkN ?_
      refine TQ.thenC ?_
      refine TC.region ?_
      refine TL.pure (PV.add rfl rfl (by omega)) rfl (by decide) ?_
      refine TL.pure (PV.move rfl) rfl (by decide) ?_
      refine TL.nil ?_
      refine TQ.thenN ?_
      refine TQ.backK (k + 1) (by repeat (first | exact True.intro | refine And.intro rfl ?_)) (by repeat (first | exact True.intro | refine And.intro rfl ?_)) (by repeat (first | exact List.Sublist.slnil | exact List.nil_sublist _ | exact List.Sublist.refl _ | refine List.Sublist.cons_cons _ ?_ | refine List.Sublist.cons _ ?_ | refine List.Sublist.trans ?_ (List.sublist_append_right _ _))) ⟨by omega, fun j hj => by
        by_cases e9 : j = k
        · subst e9; exact hit
        · exact hk.2 j (by omega)⟩ (by omega)
  · skip
    refine TC.exit ?_
    refine TQ.thenE ?_
    refine TQ.thenE ?_
    refine TQ.blkS ?_
    refine TQ.thenC ?_
    refine TC.seq ?_
    have hke : k = xs.length := by omega
    refine TC.region ?_
    refine TL.pure (PV.assign rfl) rfl (by decide) ?_
    refine TL.nil ?_
    refine TQ.thenC ?_
    refine TC.ret ?_
    refine TQ.retE1 rfl rfl ?_
    exact ⟨-1, rfl, .inl ⟨rfl, fun j hj => hk.2 j (by omega)⟩, List.nil_sublist _⟩

set_option maxRecDepth 100000 in
set_option maxHeartbeats 2000000 in
theorem roundOf_ok (w0 : World) (p : Option Addr) (c K : Nat) (L : List Fl.E) (hK : L.length = K) (hr : RecsAt R4 w0 p L) (hKl : K ≤ 100) (N9 : Nat) (hC : Fl.Cir N9 L) (hn : N9 ≤ 8) :
    Calls Try.prog 85 #[.slice p K c] w0 (Post (X := Option RW) (fun y => rwV y) (rwF L) (fun y => rwD y) w0) := by
  refine calls Try.func85 rfl (n := 38) rfl (by simp) ?_
  refine TC.seq ?_
  refine TC.region ?_
  refine TL.box rfl rfl (by decide) (fun b0 hb0 => ?_)
  refine TL.pure (PV.assign rfl) rfl (by decide) ?_
  refine TL.nil ?_
  refine TQ.thenC ?_
  refine TC.seq ?_
  refine TC.region ?_
  refine TL.pure (PV.load rfl Tb.one_65 (by repeat (first | exact List.Mem.head _ | refine List.Mem.tail _ ?_ | refine List.mem_append_right _ ?_)) rfl) rfl (by decide) ?_
  refine TL.call rfl Tb.gofn_94 (fun a w hs => indexR_ok w p c K L hK (hr.new hs.new) hKl 95 [] (fun e => decide (0 < e.r)) Tb.gofn_95 (fun w' hN j hj => runs_ok w' _)) rfl (by decide) (fun i0 hi0 => ?_)
  refine TL.pure (PV.assign rfl) rfl (by decide) ?_
  refine TL.nil ?_
  refine TQ.thenC ?_
  refine TC.seq ?_
  refine TC.seq ?_
  refine TC.region ?_
  refine TL.pure (PV.move rfl) rfl (by decide) ?_
  refine TL.pure (PV.lss rfl rfl) rfl (by decide) ?_
  refine TL.nil ?_
  refine TQ.thenC ?_
  first | refine TC.condD rfl (fun hneg => ?_) (fun hneg => ?_) | refine TC.cond rfl (fun hneg => ?_) (fun hneg => ?_)
  · skip
    refine TC.seq ?_
    refine TC.region ?_
    refine TL.pure (PV.assign rfl) rfl (by decide) ?_
    refine TL.nil ?_
    refine TQ.thenC ?_
    refine TC.ret ?_
    refine TQ.thenR ?_
    refine TQ.retE1 rfl rfl ?_
    exact ⟨none, rfl, fun k hk => by have h9 := of_decide_eq_false (hi0.none hneg k hk); omega, List.nil_sublist _⟩
  · skip
    obtain ⟨k0, hk0, e0, hg0⟩ := hi0.some hneg
    subst e0
    have hg0r : 0 < (L.getD k0 default).r := of_decide_eq_true hg0
    refine TC.skip ?_
    refine TQ.thenC ?_
    refine TC.seq ?_
    refine TC.region ?_
    refine TL.pure (PV.move rfl) rfl (by decide) ?_
    refine TL.buildSlice (cs := #[.int .i64 (k0 : Nat)]) rfl Tb.sl_25 Tb.zi_3 (by decide) (fill_i _) (by decide) rfl (by decide) (fun bE hbE => ?_)
    refine TL.pure (PV.assign rfl) rfl (by decide) ?_
    refine TL.nil ?_
    refine TQ.thenC ?_
    refine TC.block ?_
    -- live and written in the loop, not told: [2]
    refine TC.loopK [1] (X := (Nat × Nat × List Value) × List Nat) (fun x => goI (some x.1, nI x.2) ∧ Fl.Wk L x.2 ∧ 0 < x.2.length) (fun x => [(4, gval (some x.1) x.2.length)]) (fun x => gbI (some x.1, nI (x.2)) ++ [(b0, Obj.cells #[.slice p K c] 65 (0, 0))]) (fun x => 9 - x.2.length) ((bE, 1, []), [k0]) ⟨⟨rfl, rfl, Nat.le_refl _⟩, Fl.Wk.one hk0 hg0r, Nat.one_pos⟩ (by repeat (first | exact True.intro | refine And.intro rfl ?_)) (by repeat (first | exact List.Sublist.slnil | exact List.nil_sublist _ | exact List.Sublist.refl _ | exact List.sublist_append_left _ _ | refine List.Sublist.cons_cons _ ?_ | refine (List.append_sublist_append_left _).2 ?_ | refine List.Sublist.cons _ ?_ | refine List.Sublist.trans ?_ (List.sublist_append_right _ _))) ?_
    intro x hx
    have hw8 := hx.2.1.len hC
    have hx0 := hx.2.2
    have hgl : gok (some x.1) x.2.length 1 (ival (nI x.2)) := by have h9 := hx.1; unfold goI at h9; simp only [nI_len] at h9; exact h9
    have hlt9 : ∀ j, j < x.2.length → x.2.getD j 0 < L.length := fun j hj => by obtain ⟨u, v, hp⟩ := hx.2.1.pt; exact hp.lt _ (by simp [List.getD, hj])
    obtain ⟨q, hqp, hq⟩ := hr (x.2.getD (x.2.length - 1) 0) (hlt9 _ (by omega))
    have hcap := hgl.2.2
    have hlk := hlt9 _ (show x.2.length - 1 < x.2.length by omega)
    rw [hK] at hlk
    refine TC.block ?_
    refine TC.seq ?_
    refine TC.mixV [true, true, true, true, true, true, true, true, true, true, true, false, false] (gbI (some x.1, nI (x.2)) ++ [(b0, Obj.cells #[.slice p K c] 65 (0, 0))]) 13 Tb.mixed rfl (by kernel_rfl) (by kernel_rfl) (by kernel_rfl) (by kernel_rfl) (by repeat (first | exact List.Sublist.slnil | exact List.nil_sublist _ | exact List.Sublist.refl _ | refine List.Sublist.cons_cons _ ?_ | refine List.Sublist.cons _ ?_ | refine List.Sublist.trans ?_ (List.sublist_append_right _ _))) ?_
    refine TV.virt 0 rfl rfl (by decide) rfl (by kernel_rfl) (SOK.pure (PV.load rfl Tb.one_65 (by repeat (first | exact List.Mem.head _ | refine List.Mem.tail _ ?_ | refine List.mem_append_right _ ?_)) rfl) rfl) ?_
    refine TV.virt 1 rfl rfl (by decide) rfl (by kernel_rfl) (SOK.pure (PV.move rfl) rfl) ?_
    refine TV.virt 2 rfl rfl (by decide) rfl (by kernel_rfl) (SOK.pure (PV.move rfl) rfl) ?_
    refine TV.virt 3 rfl rfl (by decide) rfl (by kernel_rfl) (SOK.pure (PV.lenG (h := some x.1) (len := x.2.length) rfl hgl Tb.sl_25) rfl) ?_
    refine TV.virt 4 rfl rfl (by decide) rfl (by kernel_rfl) (SOK.pure (PV.sub rfl rfl (by omega)) rfl) ?_
    refine TV.virt 5 rfl rfl (by decide) rfl (by kernel_rfl) (SOK.pure (PV.indexG (h := some x.1) (len := x.2.length) (j := x.2.length - 1) rfl rfl hgl Tb.elm_25 (by omega) (by omega)) rfl) ?_
    refine TV.virt 6 rfl rfl (by decide) rfl (by kernel_rfl) (SOK.pure (PV.loadGI (y := (some x.1, nI x.2)) (j := x.2.length - 1) (v := ((x.2.getD (x.2.length - 1) 0) : Nat)) rfl Tb.one_3 (by intro y hy; repeat (first | exact hy | exact List.mem_append_left _ hy | refine List.mem_append_right _ ?_ | refine List.Mem.tail _ ?_)) hx.1 (by rw [nI_len]; omega) (nI_get (by omega))) rfl) ?_
    refine TV.virt 7 rfl rfl (by decide) rfl (by kernel_rfl) (SOK.pure (PV.indexA (j := (x.2.getD (x.2.length - 1) 0)) rfl hqp rfl Tb.elm_65 rfl (by omega)) rfl) ?_
    refine TV.virt 8 rfl rfl (by decide) rfl (by kernel_rfl) (SOK.pure (PV.fieldAddrA rfl Tb.fo_92_0) rfl) ?_
    refine TV.virt 9 rfl rfl (by decide) rfl (by kernel_rfl) (SOK.pure (PV.fieldAddrA rfl Tb.fo_40_1) rfl) ?_
    refine TV.virt 10 rfl rfl (by decide) rfl (by kernel_rfl) (SOK.pure (PV.loadOld rfl Tb.one_3 (by rw [addr_add_add]; exact hq 1 _ rfl)) rfl) ?_
    refine TV.step [11] (by kernel_rfl) (by decide) rfl ⟨⟨_, rfl, ?_⟩, trivial⟩
    refine TL.alloc Tb.zero_3 rfl (by decide) (fun bA hbA => ?_)
    refine TL.nil ?_
    refine TV.next (.inl (by repeat (first | exact List.Sublist.slnil | exact List.nil_sublist _ | exact List.Sublist.refl _ | refine List.Sublist.cons_cons _ ?_ | refine List.Sublist.cons _ ?_ | refine List.Sublist.trans ?_ (List.sublist_append_right _ _)))) ?_
    refine TV.step [12] (by kernel_rfl) (by decide) rfl ⟨⟨_, rfl, ?_⟩, trivial⟩
    refine TL.store rfl rfl Tb.cells_3 rfl (by repeat (first | exact Upd.head _ | apply Upd.tail | apply Upd.appR)) (by first | decide | (simp; done) | (simp; omega) | omega) rfl rfl ?_
    refine TL.nil ?_
    refine TV.next (.inr (by kernel_rfl)) ?_
    refine TV.done (by kernel_rfl) ?_
    refine TQ.thenC ?_
    refine TC.seq ?_
    refine TC.seq ?_
    refine TC.region ?_
    refine TL.pure (PV.move rfl) rfl (by decide) ?_
    refine TL.pure (PV.makeFunc rfl) rfl (by decide) ?_
    refine TL.call rfl Tb.gofn_96 (fun a w hs => indexI_ok w _ (nI x.2) (by have h9 := IsI.g (h := some x.1) (xs := nI x.2) hs.new (by intro y hy; repeat (first | exact hy | exact List.mem_append_left _ hy | refine List.mem_append_right _ ?_ | refine List.Mem.tail _ ?_)) hx.1; rw [nI_len] at h9; exact h9) (by rw [nI_len]; omega) 97 [.pointer (some ⟨b0, 0, none⟩), .pointer (some ⟨bA, 0, none⟩)] (fun v => decide ((L.getD v.toNat default).f = (L.getD (x.2.getD (x.2.length - 1) 0) default).t)) Tb.gofn_97 (fun w' hN j hj => by rw [nI_len] at hj; rw [nI_get hj, Int.toNat_natCast]; exact at_ok w' p c K L hK ((hr.new hs.new).new hN) hKl (x.2.getD j 0) (hlt9 j hj) _ _ _ (hN.old (hs.new.cell (by repeat (first | exact List.Mem.head _ | refine List.Mem.tail _ ?_ | refine List.mem_append_right _ ?_)) rfl)) (hN.old (hs.new.cell (by repeat (first | exact List.Mem.head _ | refine List.Mem.tail _ ?_ | refine List.mem_append_right _ ?_)) rfl)))) rfl (by decide) (fun i1 hi1 => ?_)
    refine TL.pure (PV.assign rfl) rfl (by decide) ?_
    refine TL.nil ?_
    refine TQ.thenC ?_
    refine TC.seq ?_
    refine TC.region ?_
    refine TL.pure (PV.move rfl) rfl (by decide) ?_
    refine TL.pure (PV.geq rfl rfl) rfl (by decide) ?_
    refine TL.nil ?_
    refine TQ.thenC ?_
    first | refine TC.condD rfl (fun hge => ?_) (fun hge => ?_) | refine TC.cond rfl (fun hge => ?_) (fun hge => ?_)
    · skip
      obtain ⟨k1, hk1, e1, hg1⟩ := hi1.some (by omega)
      subst e1
      rw [nI_len] at hk1
      have hg1f : (L.getD (x.2.getD k1 0) default).f = (L.getD (x.2.getD (x.2.length - 1) 0) default).t := by have h9 := of_decide_eq_true hg1; rw [nI_get hk1, Int.toNat_natCast] at h9; exact h9
      refine TC.seq ?_
      refine TC.region ?_
      refine TL.pure (PV.move rfl) rfl (by decide) ?_
      refine TL.pure (PV.move rfl) rfl (by decide) ?_
      refine TL.pure (PV.sliceL1 (l := k1) rfl rfl Tb.elm_25 rfl (by omega) (by omega)) rfl (by decide) ?_
      refine TL.pure (PV.assign rfl) rfl (by decide) ?_
      refine TL.nil ?_
      refine TQ.thenC ?_
      refine TC.ret ?_
      refine TQ.thenR ?_
      refine TQ.blkR ?_
      refine TQ.thenR ?_
      refine TQ.blkR ?_
      refine TQ.retE1 rfl rfl ?_
      exact ⟨some ⟨x.1.1, x.1.2.1, x.1.2.2, x.2, k1⟩, rfl, ⟨hk1, hx.2.1.round hk1 hg1f, show x.2.length ≤ 8 by omega, hx.1⟩, (by repeat (first | exact List.Sublist.slnil | exact List.nil_sublist _ | exact List.Sublist.refl _ | exact List.sublist_append_left _ _ | refine List.Sublist.cons_cons _ ?_ | refine (List.append_sublist_append_left _).2 ?_ | refine List.Sublist.cons _ ?_ | refine List.Sublist.trans ?_ (List.sublist_append_right _ _)))⟩
    · skip
      have hnw : ∀ k ∈ x.2, (L.getD k default).f ≠ (L.getD (x.2.getD (x.2.length - 1) 0) default).t := fun k hk => by
        obtain ⟨j, hj, rfl⟩ := List.getElem_of_mem hk
        have h9 := hi1.none (by omega) j (by rw [nI_len]; exact hj)
        rw [nI_get hj, Int.toNat_natCast] at h9
        have h8 := of_decide_eq_false h9
        simpa [List.getD, hj] using h8
      refine TC.skip ?_
      refine TQ.thenC ?_
      refine TC.region ?_
      refine TL.pure (PV.move rfl) rfl (by decide) ?_
      refine TL.pure (PV.load rfl Tb.one_65 (by repeat (first | exact List.Mem.head _ | refine List.Mem.tail _ ?_ | refine List.mem_append_right _ ?_)) rfl) rfl (by decide) ?_
      refine TL.pure (PV.makeFunc rfl) rfl (by decide) ?_
      refine TL.call rfl Tb.gofn_94 (fun a w hs => indexR_ok w p c K L hK (hr.new hs.new) hKl 98 [.pointer (some ⟨bA, 0, none⟩)] (fun e => decide (e.f = (L.getD (x.2.getD (x.2.length - 1) 0) default).t ∧ 0 < e.r)) Tb.gofn_98 (fun w' hN j hj => from_ok w' _ _ _ (hN.old (hs.new.cell (by repeat (first | exact List.Mem.head _ | refine List.Mem.tail _ ?_ | refine List.mem_append_right _ ?_)) rfl)))) rfl (by decide) (fun i2 hi2 => ?_)
      obtain ⟨j2, hj2, hf2, hr2⟩ := hC.go (k := (x.2.getD (x.2.length - 1) 0)) (hlt9 _ (by omega)) (hx.2.1.run _ (by simp [List.getD, show x.2.length - 1 < x.2.length by omega]))
      obtain ⟨k2, hk2, e2, hg2⟩ := hi2.ex hj2 (decide_eq_true ⟨hf2, hr2⟩)
      subst e2
      refine TL.buildSlice (cs := #[.int .i64 (k2 : Nat)]) rfl Tb.sl_25 Tb.zi_3 (by decide) (fill_i _) (by decide) rfl (by decide) (fun bE2 hbE2 => ?_)
      refine TL.appendI (x0 := (some x.1, nI x.2)) (by show some (gval (some x.1) x.2.length) = some (gval (some x.1) (nI x.2).length); rw [nI_len]) rfl (by repeat (first | exact List.Mem.head _ | refine List.Mem.tail _ ?_ | refine List.mem_append_right _ ?_)) hx.1 (by repeat (first | exact TakeH.here _ _ _ _ | apply TakeH.tail | apply TakeH.app)) (by show (nI x.2).length ≤ 1000000; rw [nI_len]; omega) rfl (by decide) (fun hh hho => ?_)
      obtain ⟨hh3, rfl⟩ : ∃ y, hh = some y := by
        cases hh with
        | none => exact absurd hho.2 (by simp)
        | some y => exact ⟨y, rfl⟩
      have hnx9 := hx.2.1.more (k := k2) (by omega) hk2 (of_decide_eq_true hg2).2 (of_decide_eq_true hg2).1 hnw
      refine TL.pure (PV.assign rfl) rfl (by decide) ?_
      refine TL.nil ?_
      refine TQ.blkN ?_
      refine TQ.thenN ?_
      refine TQ.backK (hh3, x.2 ++ [k2]) (by refine And.intro ?_ True.intro; show some (gval (some hh3) (nI x.2 ++ [(k2 : Int)]).length) = some (gval (some hh3) (x.2 ++ [k2]).length); rw [← nI_app, nI_len]) (by repeat (first | exact True.intro | refine And.intro rfl ?_)) (by rw [nI_app]; exact (by repeat (first | exact List.Sublist.slnil | exact List.nil_sublist _ | exact List.Sublist.refl _ | exact List.sublist_append_left _ _ | refine List.Sublist.cons_cons _ ?_ | refine (List.append_sublist_append_left _).2 ?_ | refine List.Sublist.cons _ ?_ | refine List.Sublist.trans ?_ (List.sublist_append_right _ _)))) ⟨by rw [nI_app]; exact hho, hnx9, by simp⟩ (by simp only [List.length_append, List.length_singleton]; omega)

end Go.Proofs.Ytnlbngbbddhgeaa
