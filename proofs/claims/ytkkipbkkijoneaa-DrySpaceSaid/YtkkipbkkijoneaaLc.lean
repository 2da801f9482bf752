/- Rows of numbers in new memory; the first row with an entry in a column. -/
import Derived.Test.YtkkipbkkijoneaaDn
import Derived.Test.YtkkipbkkijoneaaDh
import Derived.Test.YtkkipbkkijoneaaLb
set_option linter.unusedVariables false
set_option linter.unusedSimpArgs false
namespace Go.Proofs.Ytkkipbkkijoneaa
open Go.Sx Go.RowKit

/-- A row in new memory. -/
structure RW where
  h : HD
  l : List Int
  deriving Inhabited
def rwR : Rec RW where
  cells r := [gval r.h r.l.length]
  sz := 1
  len := fun _ => rfl
  one := fun r v hv => by rw [List.mem_singleton.1 hv]; exact gval_one _ _
  pos := by decide
def rwB (rs : List RW) : Heap := rs.flatMap fun r => gbI (r.h, r.l)
def rwOk (rs : List RW) : Prop := ∀ r ∈ rs, goI (r.h, r.l)
theorem rwB_mem {rs : List RW} {r : RW} (h : r ∈ rs) : ∀ y ∈ gbI (r.h, r.l), y ∈ rwB rs := fun y hy => List.mem_flatMap.2 ⟨r, h, hy⟩
theorem rw_at {rs : List RW} {j : Nat} (hj : j < rs.length) : rs.getD j default ∈ rs := by simp [List.getD, hj]
theorem LsAt.rw {w0 w : World} {G : Heap} {h : HD} {rs : List RW} (hn : New w0 w G) (hm : ∀ y ∈ gbR rwR 25 h rs, y ∈ G) (hm2 : ∀ y ∈ rwB rs, y ∈ G) (ho : goR rwR h rs) (hok : rwOk rs) : LsAt w (gp h) (rs.map RW.l) := by
  have hr := RecsAt.s (R := rwR) hn hm ho
  intro j hj
  rw [List.length_map] at hj
  obtain ⟨q, hq, hc⟩ := hr j hj
  have hmem := rw_at hj
  have e : (rs.map RW.l).getD j [] = (rs.getD j default).l := by simp [List.getD, hj]
  have h1 := hok _ hmem
  have c0 := hc 0 _ rfl
  rw [gval_eq h1, addr_add_add] at c0
  rw [e]
  exact ⟨q, hq, _, _, c0, IntsAt.g (x := ((rs.getD j default).h, (rs.getD j default).l)) hn (fun y hy => hm2 y (rwB_mem hmem y hy)) h1⟩
theorem LsAt.cut {w : World} {p : Option Addr} {ls : List (List Int)} (h : LsAt w p ls) (l cap : Nat) (hc : ls.length ≤ cap) : LsAt w (cutA p cap l 1) (ls.drop l) := by
  intro j hj
  rw [List.length_drop] at hj
  obtain ⟨q, hq, pj, cj, h1, h2⟩ := h (l + j) (by omega)
  have e : (ls.drop l).getD j [] = ls.getD (l + j) [] := by rw [List.getD_eq_getElem?_getD, List.getElem?_drop, ← List.getD_eq_getElem?_getD]
  refine ⟨q.add (l * 1), by unfold cutA; rw [if_neg (by omega), hq]; rfl, pj, cj, ?_, by rw [e]; exact h2⟩
  rw [e, addr_add_add, ← Nat.add_mul]
  exact h1
theorem PV.sliceG {n : Nat} {w0 : World} {E : Env} {G : Heap} {d : Option Nat} {ty : TypeId} {pos : String} {aft : Array Edge} {g : Option (Nat × Bool)} {x y : Operand} {h : HD} {ys : List Value} {len s e l t : Nat} {i : Int} (hx : evo E x = some (gval h len)) (hy : evo E y = some (.int .i64 i))
    (ho : gok h len s ys) (ht : elemOf' Try.prog t = some (e, s)) (hi : i = (l : Int)) (hl : l ≤ len) : PV Try.prog n w0 E G ⟨d, .slice t x (some y) none none, ty, pos, aft, g⟩ (.slice (cutA (gp h) (gc h) l s) (len - l) (gc h - l)) :=
  PV.sliceL (by rw [hx, gval_eq ho]) hy ht hi hl


set_option maxRecDepth 100000 in
theorem rowF_ok (w0 : World) (p : Option Addr) (cp : Nat) (xs : List Int) (hx : IntsAt w0 p xs) (c : Nat) (hc : c < xs.length) (a : Addr) (ha : w0.cell? a = some (.int .i64 c)) :
    Calls Try.prog 108 #[.slice p xs.length cp, .pointer (some a)] w0 (Post (X := Unit) (fun _ => .bool (decide (xs.getD c 0 ≠ 0))) (fun _ => True) (fun _ => []) w0) := by
  obtain ⟨q1, hq1p, hq1⟩ := hx c hc
  refine calls Try.func108 rfl (n := 9) rfl (by simp) ?_
  refine TC.seq ?_
  refine TC.region ?_
  refine TL.pure (PV.assign rfl) rfl (by decide) ?_
  refine TL.nil ?_
  refine TQ.thenC ?_
  refine TC.seq ?_
  refine TC.region ?_
  refine TL.pure (PV.move rfl) rfl (by decide) ?_
  refine TL.pure (PV.loadOld rfl Tb.one_3 ha) rfl (by decide) ?_
  refine TL.pure (PV.indexA rfl hq1p rfl Tb.elm_25 rfl (by omega)) rfl (by decide) ?_
  refine TL.pure (PV.loadOld rfl Tb.one_3 hq1) rfl (by decide) ?_
  refine TL.pure (PV.neq rfl rfl) rfl (by decide) ?_
  refine TL.pure (PV.assign rfl) rfl (by decide) ?_
  refine TL.nil ?_
  refine TQ.thenC ?_
  refine TC.ret ?_
  refine TQ.retE1 rfl rfl ?_
  exact ⟨(), rfl, trivial, List.nil_sublist _⟩

set_option maxRecDepth 100000 in
set_option maxHeartbeats 1000000 in
theorem idxRow_ok (w0 : World) (p : Option Addr) (cp : Nat) (ls : List (List Int)) (hL : LsAt w0 p ls) (hll : ls.length ≤ 1000000) (c : Nat) (hc : ∀ j, j < ls.length → c < (ls.getD j []).length) (a : Addr) (ha : w0.cell? a = some (.int .i64 c)) :
    Calls Try.prog 107 #[.slice p ls.length cp, .func (.func 108) #[] #[.pointer (some a)]] w0 (Post (X := Int) (fun i => .int .i64 i) (fun i => Fst (fun l => decide (l.getD c 0 ≠ 0)) ls i) (fun _ => []) w0) := by
  refine calls Try.func107 rfl (n := 19) rfl (by simp) ?_
  refine TC.seq ?_
  refine TC.region ?_
  refine TL.pure (PV.assign rfl) rfl (by decide) ?_
  refine TL.nil ?_
  refine TQ.thenC ?_
  refine TC.seq ?_
  refine TC.seq ?_
  refine TC.region ?_
  refine TL.pure (PV.move rfl) rfl (by decide) ?_
  refine TL.pure (PV.len rfl Tb.sl_97) rfl (by decide) ?_
  refine TL.pure (PV.move rfl) rfl (by decide) ?_
  refine TL.nil ?_
  refine TQ.thenC ?_
  refine TC.block ?_
  -- live and written in the loop, not told: [4]
  refine TC.loopG [0, 1, 7] (X := Nat) (fun k => k ≤ ls.length ∧ ∀ j, j < k → (fun l : List Int => decide (l.getD c 0 ≠ 0)) (ls.getD j default) = false) (fun k => [(8, .int .i64 k)]) (fun k => ls.length - k) 0 ⟨Nat.zero_le _, fun j hj => absurd hj (Nat.not_lt_zero _)⟩ (by repeat (first | exact True.intro | refine And.intro rfl ?_)) ?_
  intro k hk
  refine TC.seq ?_
  refine TC.region ?_
  refine TL.pure (PV.lss rfl rfl) rfl (by decide) ?_
  refine TL.nil ?_
  refine TQ.thenC ?_
  refine TC.seq ?_
  first | refine TC.condD rfl (fun hlt => ?_) (fun hlt => ?_) | refine TC.cond rfl (fun hlt => ?_) (fun hlt => ?_)
  · skip
    refine TC.skip ?_
    refine TQ.thenC ?_
    refine TC.seq ?_
    refine TC.block ?_
    refine TC.seq ?_
    refine TC.region ?_
    refine TL.pure (PV.move rfl) rfl (by decide) ?_
    refine TL.pure (PV.assign rfl) rfl (by decide) ?_
    refine TL.nil ?_
    refine TQ.thenC ?_
    refine TC.seq ?_
    obtain ⟨q1, hq1p, pj, cj, hq1, hj1⟩ := hL k (by omega)
    refine TC.region ?_
    refine TL.pure (PV.move rfl) rfl (by decide) ?_
    refine TL.pure (PV.move rfl) rfl (by decide) ?_
    refine TL.pure (PV.move rfl) rfl (by decide) ?_
    refine TL.pure (PV.indexA (j := k) rfl hq1p rfl Tb.elm_97 rfl (by omega)) rfl (by decide) ?_
    refine TL.pure (PV.loadOld rfl Tb.one_25 hq1) rfl (by decide) ?_
    refine TL.callBC (f := 108) (pre := []) (caps := [.pointer (some a)]) rfl rfl Tb.gofn_108 (fun a9 w hs => rowF_ok w pj cj (ls.getD k []) (hj1.new hs.new) c (hc k (by omega)) a (hs.new.old ha)) rfl (by decide) (fun _ _ => ?_)
    refine TL.nil ?_
    refine TQ.thenC ?_
    first | refine TC.condD rfl (fun hno => ?_) (fun hno => ?_) | refine TC.cond rfl (fun hno => ?_) (fun hno => ?_)
    · skip
      refine TC.seq ?_
      refine TC.region ?_
      refine TL.pure (PV.move rfl) rfl (by decide) ?_
      refine TL.pure (PV.assign rfl) rfl (by decide) ?_
      refine TL.nil ?_
      refine TQ.thenC ?_
      refine TC.ret ?_
      refine TQ.blkR ?_
      refine TQ.thenR ?_
      refine TQ.thenR ?_
      refine TQ.blkR ?_
      refine TQ.thenR ?_
      refine TQ.retE1 rfl rfl ?_
      exact ⟨k, rfl, .inr ⟨k, rfl, by omega, by simpa [default] using hno, hk.2⟩, List.nil_sublist _⟩
    · skip
      refine TC.skip ?_
      refine TQ.blkN ?_
      refine TQ.thenC ?_
      refine TC.region ?_
      refine TL.pure (PV.add rfl rfl (by omega)) rfl (by decide) ?_
      refine TL.pure (PV.move rfl) rfl (by decide) ?_
      refine TL.nil ?_
      refine TQ.thenN ?_
      refine TQ.backK (k + 1) (by repeat (first | exact True.intro | refine And.intro rfl ?_)) (by repeat (first | exact True.intro | refine And.intro rfl ?_)) (by repeat (first | exact List.Sublist.slnil | exact List.nil_sublist _ | exact List.Sublist.refl _ | refine List.Sublist.cons_cons _ ?_ | refine List.Sublist.cons _ ?_ | refine List.Sublist.trans ?_ (List.sublist_append_right _ _))) ⟨by omega, fun j hj => if e : j < k then hk.2 j e else (show k = j by omega) ▸ (by simpa [default] using hno)⟩ (by omega)
  · skip
    refine TC.exit ?_
    refine TQ.thenE ?_
    refine TQ.thenE ?_
    refine TQ.blkS ?_
    refine TQ.thenC ?_
    refine TC.seq ?_
    refine TC.region ?_
    refine TL.pure (PV.assign rfl) rfl (by decide) ?_
    refine TL.nil ?_
    refine TQ.thenC ?_
    refine TC.ret ?_
    refine TQ.retE1 rfl rfl ?_
    exact ⟨-1, rfl, .inl ⟨rfl, fun j hj => hk.2 j (by omega)⟩, List.nil_sublist _⟩

end Go.Proofs.Ytkkipbkkijoneaa
