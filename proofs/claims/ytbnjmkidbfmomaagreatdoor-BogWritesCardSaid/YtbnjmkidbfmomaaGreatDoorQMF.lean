/- Texts joined. -/
import Derived.Test.YtbnjmkidbfmomaaGreatDoorQMA
import Derived.Test.YtbnjmkidbfmomaaGreatDoorQMD
import Derived.Test.YtbnjmkidbfmomaaGreatDoorQSd
import Derived.Test.YtbnjmkidbfmomaaGreatDoorQXc
import Derived.Test.YtbnjmkidbfmomaaGreatDoorQXh
set_option linter.unusedSimpArgs false
set_option linter.unusedVariables false
/- Which trades and plans are right, and what a plan costs: the reference, and the laws' first contract. -/
namespace Go.Proofs.YtbnjmkidbfmomaaGreatDoor
open Go.Sx Go.RowKit Go.Sand

/-- A row in new memory. -/
structure RW where
  h : HD
  l : List Int
  deriving Inhabited
def rwR : Rec RW where
  cells r := [gval r.h r.l.length]
  sz := 1
  len := fun _ => rfl
  one := fun r v hv => by rw [List.mem_singleton.1 hv]; exact gval_one _ _
  pos := by decide
def rwB (rs : List RW) : Heap := rs.flatMap fun r => gbI (r.h, r.l)
def rwOk (rs : List RW) : Prop := ∀ r ∈ rs, goI (r.h, r.l)
theorem rwB_mem {rs : List RW} {r : RW} (h : r ∈ rs) : ∀ y ∈ gbI (r.h, r.l), y ∈ rwB rs := fun y hy => List.mem_flatMap.2 ⟨r, h, hy⟩
theorem rw_at {rs : List RW} {j : Nat} (hj : j < rs.length) : rs.getD j default ∈ rs := by simp [List.getD, hj]
theorem LsAt.rw {w0 w : World} {G : Heap} {h : HD} {rs : List RW} (hn : New w0 w G) (hm : ∀ y ∈ gbR rwR 25 h rs, y ∈ G) (hm2 : ∀ y ∈ rwB rs, y ∈ G) (ho : goR rwR h rs) (hok : rwOk rs) : LsAt w (gp h) (rs.map RW.l) := by
  have hr := RecsAt.s (R := rwR) hn hm ho
  intro j hj
  rw [List.length_map] at hj
  obtain ⟨q, hq, hc⟩ := hr j hj
  have hmem := rw_at hj
  have e : (rs.map RW.l).getD j [] = (rs.getD j default).l := by simp [List.getD, hj]
  have h1 := hok _ hmem
  have c0 := hc 0 _ rfl
  rw [gval_eq h1, addr_add_add] at c0
  rw [e]
  exact ⟨q, hq, _, _, c0, IntsAt.g (x := ((rs.getD j default).h, (rs.getD j default).l)) hn (fun y hy => hm2 y (rwB_mem hmem y hy)) h1⟩
theorem rwB_app (a b : List RW) : rwB (a ++ b) = rwB a ++ rwB b := by simp [rwB]
theorem rwB_at {rs : List RW} {k : Nat} (hk : k < rs.length) (R : Heap) : rwB rs ++ R = rwB (rs.take k) ++ (gbI ((rs.getD k default).h, (rs.getD k default).l) ++ (rwB (rs.drop (k + 1)) ++ R)) := by
  have e : rs = rs.take k ++ rs.getD k default :: rs.drop (k + 1) := by
    have := List.take_append_drop k rs
    rw [List.drop_eq_getElem_cons hk] at this
    rw [show rs.getD k default = rs[k] by simp [List.getD, hk]]
    exact this.symm
  conv => lhs; rw [e]
  rw [rwB_app, show rwB (rs.getD k default :: rs.drop (k + 1)) = gbI ((rs.getD k default).h, (rs.getD k default).l) ++ rwB (rs.drop (k + 1)) from rfl]
  simp only [List.append_assoc]
theorem rwB_set {rs : List RW} {k : Nat} (hk : k < rs.length) (r : RW) (R : Heap) : rwB (rs.set k r) ++ R = rwB (rs.take k) ++ (gbI (r.h, r.l) ++ (rwB (rs.drop (k + 1)) ++ R)) := by
  have h1 : k < (rs.set k r).length := by simpa using hk
  rw [rwB_at h1 R]
  have e1 : (rs.set k r).getD k default = r := by simp [List.getD, hk]
  have e2 : (rs.set k r).take k = rs.take k := by rw [List.take_set]; exact List.set_eq_of_length_le (by rw [List.length_take]; omega)
  have e3 : (rs.set k r).drop (k + 1) = rs.drop (k + 1) := by rw [List.drop_set]; simp
  rw [e1, e2, e3]
theorem rw_ok0 (n : Nat) : rwOk (List.replicate n ⟨none, []⟩) := fun r hr => by rw [List.eq_of_mem_replicate hr]; exact ⟨rfl, rfl⟩
theorem rw_go0 (b n : Nat) : goR rwR (some (b, n, [])) (List.replicate n ⟨none, []⟩) := by
  refine ⟨rcs_len _, ?_⟩
  show n * 1 = (rcs rwR _).length + 0 ∧ _
  rw [rcs_len, List.length_replicate]
  exact ⟨by show n * 1 = n * 1 + 0; omega, Nat.le_refl _⟩
theorem rw_blk0 (b n : Nat) : (b, Obj.cells (List.replicate n (Value.slice none 0 0)).toArray 25 (0, 0)) :: rwB (List.replicate n ⟨none, []⟩) = gbR rwR 25 (some (b, n, [])) (List.replicate n ⟨none, []⟩) ++ rwB (List.replicate n ⟨none, []⟩) := by
  have : rcs rwR (List.replicate n ⟨none, []⟩) = List.replicate n (Value.slice none 0 0) := by
    induction n with
    | zero => rfl
    | succ n ih => rw [List.replicate_succ, List.replicate_succ, ← ih]; rfl
  show _ = [(b, Obj.cells (rcs rwR _ ++ []).toArray 25 (0, 0))] ++ _
  rw [this, List.append_nil]
  rfl
theorem rwB_none (n : Nat) : rwB (List.replicate n ⟨none, []⟩) = [] := by
  induction n with
  | zero => rfl
  | succ n ih => rw [List.replicate_succ]; show [] ++ rwB _ = []; rw [ih]; rfl
theorem rwOk.set {rs : List RW} (h : rwOk rs) {r : RW} (hr : goI (r.h, r.l)) (k : Nat) : rwOk (rs.set k r) := fun x hx => by
  rcases List.mem_or_eq_of_mem_set hx with h1 | h1
  · exact h x h1
  · rw [h1]; exact hr
end Go.Proofs.YtbnjmkidbfmomaaGreatDoor

/- What improves a plan; copies of tables: contracts. -/
namespace Go.Proofs.YtbnjmkidbfmomaaGreatDoor
open Go.Sx Go.RowKit Go.Sand

/-- Rows, as far as they are copied. -/
structure CpS (m : List (List Int)) (k : Nat) (h : HD) (rs : List RW) : Prop where
  len : rs.length = m.length
  go : goR rwR h rs
  ok : rwOk rs
  l : ∀ j, j < m.length → (rs.getD j default).l = if j < k then m.getD j [] else []
theorem CpS.zero {m : List (List Int)} {b n : Nat} (hn : m.length = n) : CpS m 0 (some (b, n, [])) (List.replicate n ⟨none, []⟩) := by
  subst hn
  refine ⟨List.length_replicate, rw_go0 b _, rw_ok0 _, fun j hj => ?_⟩
  rw [if_neg (Nat.not_lt_zero _), show (List.replicate m.length (⟨none, []⟩ : RW)).getD j default = ⟨none, []⟩ by simp [List.getD, hj]]
theorem CpS.step {m : List (List Int)} {k : Nat} {h h' : HD} {rs : List RW} (s : CpS m k h rs) (hk : k < m.length) (ho : goI (h', m.getD k [])) : CpS m (k + 1) h (rs.set k ⟨h', m.getD k []⟩) := by
  have hl := s.len
  refine ⟨by rw [List.length_set]; exact hl, goR_len s.go (by simp), s.ok.set ho k, fun j hj => ?_⟩
  rw [List.getD_eq_getElem?_getD, List.getElem?_set]
  by_cases e : k = j
  · subst e
    rw [if_pos rfl, if_pos (by omega), if_pos (Nat.lt_succ_self _)]
    rfl
  · rw [if_neg e, ← List.getD_eq_getElem?_getD, s.l j hj]
    by_cases e2 : j < k
    · rw [if_pos e2, if_pos (by omega)]
    · rw [if_neg e2, if_neg (by omega)]
theorem CpS.fin {m : List (List Int)} {k : Nat} {h : HD} {rs : List RW} (s : CpS m k h rs) (hk : m.length ≤ k) : rs.map RW.l = m := by
  have hl := s.len
  refine List.ext_getElem (by rw [List.length_map]; exact hl) fun j h1 h2 => ?_
  have h3 := s.l j h2
  rw [if_pos (by omega)] at h3
  rw [List.getElem_map]
  have e1 : rs.getD j default = rs[j]'(by omega) := by simp [List.getD, show j < rs.length by omega]
  have e2 : m.getD j [] = m[j] := by simp [List.getD, h2]
  rw [← e1, ← e2, h3]

end Go.Proofs.YtbnjmkidbfmomaaGreatDoor

/- Yards in new memory: contracts. -/
namespace Go.Proofs.YtbnjmkidbfmomaaGreatDoor
open Go.Sx Go.RowKit

theorem perm_of {A B : Heap} (h : ∀ c : (Nat × Obj) → Nat, (A.map c).sum = (B.map c).sum) : List.Perm A B := by
  classical
  rw [List.perm_iff_count]
  intro a
  have hc : ∀ l : Heap, (l.map fun x => if x = a then 1 else 0).sum = l.count a := fun l => by
    induction l with
    | nil => rfl
    | cons x l ih =>
      rw [List.map_cons, List.sum_cons, ih, List.count_cons]
      by_cases e : x = a
      · subst e; simp; omega
      · simp [e]
  rw [← hc A, ← hc B]
  exact h _
end Go.Proofs.YtbnjmkidbfmomaaGreatDoor

/- Copies of tables: contracts. -/
namespace Go.Proofs.YtbnjmkidbfmomaaGreatDoor
open Go.Sx Go.RowKit Go.Bt Go.Lib Go.Sand

set_option maxRecDepth 100000 in
set_option maxHeartbeats 2000000 in
theorem copied_ok (w0 : World) (p : Option Addr) (cp : Nat) (m : List (List Int)) (hr : LsAt w0 p m) (hml : m.length ≤ 1000) (hM : ∀ k, (m.getD k []).length ≤ 1000000) :
    Calls Tryz.prog 99 #[.slice p m.length cp] w0 (Post (X := HD × List RW) (fun y => gval y.1 m.length) (fun y => goR rwR y.1 y.2 ∧ rwOk y.2 ∧ y.2.map RW.l = m) (fun y => gbR rwR 25 y.1 y.2 ++ rwB y.2) w0) := by
  refine calls Tryz.func99 rfl (n := 23) rfl (by simp) ?_
  refine TC.seq ?_
  refine TC.region ?_
  refine TL.pure (PV.assign rfl) rfl (by decide) ?_
  refine TL.nil ?_
  refine TQ.thenC ?_
  refine TC.seq ?_
  refine TC.region ?_
  refine TL.pure (PV.move rfl) rfl (by decide) ?_
  refine TL.pure (PV.len rfl Tb.sl_22) rfl (by decide) ?_
  refine TL.make (k := m.length) rfl rfl Tb.sl_22 Tb.zi_25 rfl rfl (by omega) (by omega) rfl (by decide) (fun bO hbO => ?_)
  refine TL.congrG (G' := gbR rwR 25 (some (bO, m.length, [])) (List.replicate m.length ⟨none, []⟩) ++ (rwB (List.replicate m.length ⟨none, []⟩) ++ [])) (by rw [← List.append_assoc, ← rw_blk0, rwB_none]; rfl) ?_
  refine TL.pure (PV.assign rfl) rfl (by decide) ?_
  refine TL.nil ?_
  refine TQ.thenC ?_
  refine TC.seq ?_
  refine TC.seq ?_
  refine TC.region ?_
  refine TL.pure (PV.move rfl) rfl (by decide) ?_
  refine TL.pure (PV.len rfl Tb.sl_22) rfl (by decide) ?_
  refine TL.pure (PV.move rfl) rfl (by decide) ?_
  refine TL.nil ?_
  refine TQ.thenC ?_
  refine TC.block ?_
  refine TC.lit [(2, _), (3, _), (9, _), (10, _), (11, _)] (by repeat (first | exact True.intro | refine And.intro rfl ?_)) ?_
  refine TC.loopK [2, 3, 9, 10] (X := Nat × List RW) (fun x => x.1 ≤ m.length ∧ CpS m x.1 (some (bO, m.length, [])) x.2) (fun x => [(11, .int .i64 x.1)]) (fun x => gbR rwR 25 (some (bO, m.length, [])) x.2 ++ (rwB x.2 ++ [])) (fun x => m.length - x.1) (0, List.replicate m.length ⟨none, []⟩) ⟨Nat.zero_le _, CpS.zero rfl⟩ (by repeat (first | exact True.intro | refine And.intro rfl ?_)) (List.Sublist.refl _) ?_
  intro x hx9
  refine TC.lit [(2, _), (3, _), (9, _), (10, _), (11, _)] (by repeat (first | exact True.intro | refine And.intro rfl ?_)) ?_
  refine TC.seq ?_
  refine TC.region ?_
  refine TL.pure (PV.lss rfl rfl) rfl (by decide) ?_
  refine TL.nil ?_
  refine TQ.thenC ?_
  refine TC.seq ?_
  first | refine TC.condD rfl (fun hlt => ?_) (fun hlt => ?_) | refine TC.cond rfl (fun hlt => ?_) (fun hlt => ?_)
  · refine TC.skip ?_
    refine TQ.thenC ?_
    refine TC.seq ?_
    refine TC.block ?_
    refine TC.seq ?_
    obtain ⟨q1, q1p, pj, cj, q1c, q1i⟩ := hr x.1 (by omega)
    have hMk := hM x.1
    have hxl := hx9.2.len
    have hxg := hx9.2.go
    have hgk : gok (some (bO, m.length, [])) m.length 1 (rcs rwR x.2) := by have h5 := hxg; unfold goR at h5; rw [hxl] at h5; exact h5
    refine TC.region ?_
    refine TL.pure (PV.move rfl) rfl (by decide) ?_
    refine TL.pure (PV.indexA rfl q1p rfl Tb.elm_22 rfl (by omega)) rfl (by decide) ?_
    refine TL.pure (PV.loadOld rfl Tb.one_25 q1c) rfl (by decide) ?_
    refine TL.pure (PV.assign rfl) rfl (by decide) ?_
    refine TL.pure (PV.assign rfl) rfl (by decide) ?_
    refine TL.nil ?_
    refine TQ.thenC ?_
    refine TC.region ?_
    refine TL.pure (PV.move rfl) rfl (by decide) ?_
    refine TL.pure (PV.move rfl) rfl (by decide) ?_
    refine TL.pure (PV.move rfl) rfl (by decide) ?_
    refine TL.call rfl Tb.gofn_67 (fun a w hs => clone_ok w _ _ _ (q1i.new hs.new) hMk) rfl (by decide) (fun hh hhh => ?_)
    refine TL.pure (PV.indexG (h := some (bO, m.length, [])) (len := m.length) (ys := rcs rwR x.2) (j := x.1) rfl rfl hgk Tb.elm_22 rfl (by omega)) rfl (by decide) ?_
    refine TL.putCell (R := rwR) (h := some (bO, m.length, [])) (l0 := x.2) (j := x.1) (f := 0) (v := gval hh (m.getD x.1 []).length) (r := ⟨hh, m.getD x.1 []⟩) (e := 25) rfl rfl Tb.cells_25 (gval_one _ _) hxg rfl (by repeat (first | exact PutH.here _ _ _ _ | apply PutH.tail | apply PutH.app)) (by omega) Nat.one_pos rfl rfl ?_
    refine TL.nil ?_
    refine TQ.blkN ?_
    refine TQ.thenC ?_
    refine TC.region ?_
    refine TL.pure (PV.add rfl rfl (by omega)) rfl (by decide) ?_
    refine TL.pure (PV.move rfl) rfl (by decide) ?_
    refine TL.nil ?_
    refine TQ.thenN ?_
    refine TQ.perm (G' := gbR rwR 25 (some (bO, m.length, [])) (x.2.set x.1 ⟨hh, m.getD x.1 []⟩) ++ (rwB (x.2.set x.1 ⟨hh, m.getD x.1 []⟩) ++ gbI ((x.2.getD x.1 default).h, (x.2.getD x.1 default).l))) (perm_of fun c9 => by rw [rwB_set (by omega)]; have h5 := congrArg (fun l => (l.map c9).sum) (rwB_at (rs := x.2) (show x.1 < x.2.length by omega) []); simp only [List.map_append, List.sum_append, List.map_cons, List.sum_cons, List.map_nil, List.sum_nil, gbI, gbR] at h5 ⊢; omega) ?_
    refine TQ.backK (x.1 + 1, x.2.set x.1 ⟨hh, m.getD x.1 []⟩) (by repeat (first | exact True.intro | refine And.intro rfl ?_)) (by repeat (first | exact True.intro | refine And.intro rfl ?_)) (List.Sublist.append_left (List.Sublist.append_left (List.nil_sublist _) _) _) ⟨by simp only; omega, hx9.2.step (by omega) hhh⟩ (by simp only; omega)
  · refine TC.exit ?_
    refine TQ.thenE ?_
    refine TQ.thenE ?_
    refine TQ.blkS ?_
    refine TQ.thenC ?_
    refine TC.seq ?_
    refine TC.region ?_
    refine TL.pure (PV.move rfl) rfl (by decide) ?_
    refine TL.pure (PV.assign rfl) rfl (by decide) ?_
    refine TL.nil ?_
    refine TQ.thenC ?_
    refine TC.ret ?_
    refine TQ.retE1 rfl rfl ?_
    exact ⟨(some (bO, m.length, []), x.2), rfl, ⟨hx9.2.go, hx9.2.ok, hx9.2.fin (by omega)⟩, by simp only [List.append_nil]; exact List.Sublist.refl _⟩

theorem clone_v (w : World) (pl : Option Addr) (cl : Nat) (xs : List Int) (hx : IntsAt w pl xs) (hl : xs.length ≤ 1000000) :
    Calls Tryz.prog 67 #[.slice pl xs.length cl] w (Post (X := HD) (fun h => .slice (gp h) xs.length (gc h)) (fun h => goI (h, xs)) (fun h => gbI (h, xs)) w) :=
  (clone_ok w pl cl xs hx hl).mono fun _ _ ⟨y, e1, e2, e3⟩ => ⟨y, by rw [e1]; exact congrArg Ending.returned (gvs e2), e2, e3⟩
theorem copied_v (w : World) (p : Option Addr) (cp : Nat) (m : List (List Int)) (hr : LsAt w p m) (hml : m.length ≤ 1000) (hM : ∀ k, (m.getD k []).length ≤ 1000000) :
    Calls Tryz.prog 99 #[.slice p m.length cp] w (Post (X := HD × List RW) (fun y => .slice (gp y.1) m.length (gc y.1)) (fun y => goR rwR y.1 y.2 ∧ rwOk y.2 ∧ y.2.map RW.l = m) (fun y => gbR rwR 25 y.1 y.2 ++ rwB y.2) w) :=
  (copied_ok w p cp m hr hml hM).mono fun _ _ ⟨y, e1, e2, e3⟩ => ⟨y, by
    have hl : y.2.length = m.length := by rw [← e2.2.2, List.length_map]
    have hg : goR rwR y.1 y.2 := e2.1
    rw [e1, ← hl]; exact congrArg Ending.returned (gval_eq (sz := 1) hg), e2, e3⟩

end Go.Proofs.YtbnjmkidbfmomaaGreatDoor

/- What a company shows: contracts. -/
namespace Go.Proofs.YtbnjmkidbfmomaaGreatDoor
open Go.Sx Go.RowKit Go.Bt Go.Lib Go.Sand

section
variable {P : Program} {n : Nat} {w0 : World} {E : Env} {G : Heap} {d : Option Nat} {ty : TypeId} {pos : String} {aft : Array Edge} {g : Option (Nat × Bool)}
theorem PV.field {x : Operand} {t f : Nat} {v r : Value} (hx : evo E x = some v) (h : ∀ w, (Instr.field t v f).run P w = .ok r w) : PV P n w0 E G ⟨d, .field t x f, ty, pos, aft, g⟩ r :=
  fun a w hs => by simp only [execOp, hs.ev hx]; simp [h]
end
abbrev bkL (c : Co) : List Value := [.int .i64 c.day, .int .i64 (c.wet : Nat), .int .i64 c.money, .int .i64 c.cut, .int .i64 c.load, .int .i64 c.grd, .bool c.shut]
theorem fd_0 (a b c d e f : Int) (g : Bool) (p q : Option Addr) (k l m n : Nat) (w : World) : (Instr.field 101 (.agg #[.int .i64 a, .int .i64 b, .int .i64 c, .int .i64 d, .int .i64 e, .int .i64 f, .bool g, .slice p k l, .slice q m n]) 0).run Tryz.prog w = .ok (.agg #[.int .i64 a, .int .i64 b, .int .i64 c, .int .i64 d, .int .i64 e, .int .i64 f, .bool g]) w := by kernel_rfl
theorem fe_2 (a b c d e f : Int) (g : Bool) (w : World) : (Instr.field 99 (.agg #[.int .i64 a, .int .i64 b, .int .i64 c, .int .i64 d, .int .i64 e, .int .i64 f, .bool g]) 2).run Tryz.prog w = .ok (.int .i64 c) w := by kernel_rfl
theorem fe_3 (a b c d e f : Int) (g : Bool) (w : World) : (Instr.field 99 (.agg #[.int .i64 a, .int .i64 b, .int .i64 c, .int .i64 d, .int .i64 e, .int .i64 f, .bool g]) 3).run Tryz.prog w = .ok (.int .i64 d) w := by kernel_rfl
theorem ords_at {w0 w : World} {G : Heap} {h : HD} {l : List (List UInt8)} (hn : New w0 w G) (hm : ∀ y ∈ gbR stR 9 h l, y ∈ G) (ho : goR stR h l) : StrsAt w (gp h) l := fun j hj => by
  obtain ⟨q, h1, h2⟩ := RecsAt.s (R := stR) hn hm ho j hj
  have := h2 0 _ rfl
  rw [addr_add_add] at this
  exact ⟨q, h1, this⟩
set_option maxRecDepth 100000 in
theorem look_ok (w0 w : World) (s : St) (hv : SV s) (u : SU) (c : Co) (v : TV) (b : Nat) (ho : HD) (Z : Heap) (hN : New w0 w (coB b s u 0 c v ho :: Z)) :
    Calls Tryz.prog 66 #[.pointer (some ⟨b, 0, none⟩)] w (Post (X := Unit) (fun _ => .agg (tyL c v).toArray) (fun _ => True) (fun _ => coB b s u 0 c v ho :: Z) w0) := by
  refine callsDfM hN Tryz.func66 rfl (n := 17) rfl (by simp) ?_
  refine TG.seq ?_
  refine TG.region (by repeat (first | with_reducible exact RB.lo | with_reducible exact QN.lo | with_reducible exact bodyM_lo | with_reducible exact bodyP_lo | with_reducible exact bodyD_lo | with_reducible apply lo_then | with_reducible apply lo_blk)) (by kernel_rfl) ?_
  refine TL.alloc Tb.zero_101 rfl (by decide) (fun b0 hb0 => ?_)
  refine TL.nil ?_
  refine TQ.thenG ?_
  refine TG.seq ?_
  refine TG.seq ?_
  refine TG.region (by repeat (first | with_reducible exact RB.lo | with_reducible exact QN.lo | with_reducible exact bodyM_lo | with_reducible exact bodyP_lo | with_reducible exact bodyD_lo | with_reducible apply lo_then | with_reducible apply lo_blk)) (by kernel_rfl) ?_
  refine TL.pure (PV.move rfl) rfl (by decide) ?_
  refine TL.call rfl Tb.gofn_61 (fun a w hs => isNone_ok w b s.need (Inv.need hv) (hs.new.cell (by repeat (first | exact List.Mem.head _ | refine List.Mem.tail _ ?_ | refine List.mem_append_right _ ?_)) rfl)) rfl (by decide) (fun _ _ => ?_)
  refine TL.nil ?_
  refine TQ.thenG ?_
  refine TG.condF rfl ?_
  refine TG.skip ?_
  refine TQ.thenG ?_
  refine TG.seq ?_
  refine TG.region (by repeat (first | with_reducible exact RB.lo | with_reducible exact QN.lo | with_reducible exact bodyM_lo | with_reducible exact bodyP_lo | with_reducible exact bodyD_lo | with_reducible apply lo_then | with_reducible apply lo_blk)) (by kernel_rfl) ?_
  refine TL.pure (PV.move rfl) rfl (by decide) ?_
  refine TL.pure (PV.nilCheck rfl) rfl (by decide) ?_
  refine TL.pure (PV.fieldAddr rfl Tb.fo_103_1) rfl (by decide) ?_
  refine TL.callW (X := Unit) (fun _ => .tuple #[]) (fun _ => True) (fun _ => (b0, Obj.cells tyZ.toArray 101 (0, 0)) :: coB b s u 1 c v ho :: Z) rfl Tb.gofn_62 (fun a w hs => lock_new (cs := (coL s u 0 c v (gval ho c.ords.length)).toArray) hs.new (by repeat (first | exact Upd.head _ | apply Upd.tail | apply Upd.appR)) rfl) rfl (by decide) (fun _ _ => ?_)
  refine TL.nil ?_
  refine TQ.thenG ?_
  refine TG.seq ?_
  refine TG.regionL ?_
  refine TGL.pre 3 (by repeat (first | with_reducible exact RB.lo | with_reducible exact QN.lo | with_reducible exact bodyM_lo | with_reducible exact bodyP_lo | with_reducible exact bodyD_lo | with_reducible apply lo_then | with_reducible apply lo_blk)) (by kernel_rfl) ?_
  simp only [List.take_succ_cons, List.take_zero, List.drop_succ_cons, List.drop_zero]
  refine TL.pure (PV.move rfl) rfl (by decide) ?_
  refine TL.pure (PV.nilCheck rfl) rfl (by decide) ?_
  refine TL.pure (PV.fieldAddr rfl Tb.fo_103_1) rfl (by decide) ?_
  refine TL.nil ?_
  refine TQ.thenL ?_
  refine TGL.defer (fun a w hs => resolve_fn rfl hs rfl) ?_
  refine TGL.opsAll (by repeat (first | with_reducible exact RB.lo | with_reducible exact QN.lo | with_reducible exact bodyM_lo | with_reducible exact bodyP_lo | with_reducible exact bodyD_lo | with_reducible apply lo_then | with_reducible apply lo_blk)) (by kernel_rfl) (TL.nil ?_)
  refine TQ.thenG ?_
  refine TG.seq ?_
  refine TG.region (by repeat (first | with_reducible exact RB.lo | with_reducible exact QN.lo | with_reducible exact bodyM_lo | with_reducible exact bodyP_lo | with_reducible exact bodyD_lo | with_reducible apply lo_then | with_reducible apply lo_blk)) (by kernel_rfl) ?_
  refine TL.pure (PV.move rfl) rfl (by decide) ?_
  refine TL.pure (PV.nilCheck rfl) rfl (by decide) ?_
  refine TL.pure (PV.fieldAddr rfl Tb.fo_103_2) rfl (by decide) ?_
  refine TL.pure (PV.loadMid (cs := coL s u 1 c v (gval ho c.ords.length)) (off := 8) (k := 9) (vs := tyL c v) rfl Tb.agg_101 (by repeat (first | exact List.Mem.head _ | refine List.Mem.tail _ ?_ | refine List.mem_append_right _ ?_)) rfl rfl) rfl (by decide) ?_
  refine TL.storeAgg (vs := tyL c v) rfl rfl Tb.cells_101 (by repeat (first | exact Upd.head _ | apply Upd.tail | apply Upd.appR)) rfl rfl rfl rfl rfl ?_
  refine TL.nil ?_
  refine TQ.thenG ?_
  refine TG.ret ?_
  refine TQ.retD (caps := []) (G' := (b0, Obj.cells (tyL c v).toArray 101 (0, 0)) :: coB b s u 0 c v ho :: Z) Tb.gofn_63 (unlock_new (cs := (coL s u 1 c v (gval ho c.ords.length)).toArray) (by repeat (first | exact Upd.head _ | apply Upd.tail | apply Upd.appR)) rfl) ?_
  refine TQ.retR rfl (Res.agg rfl Tb.agg_101 (by repeat (first | exact List.Mem.head _ | refine List.Mem.tail _ ?_ | refine List.mem_append_right _ ?_)) rfl Res.nil) ?_
  simp only [tup]
  exact ⟨(), trivial, trivial, List.Sublist.cons _ (List.Sublist.refl _)⟩

set_option maxRecDepth 100000 in
theorem Money_ok (w0 w : World) (s : St) (hv : SV s) (u : SU) (c : Co) (v : TV) (b : Nat) (ho : HD) (Z : Heap) (hN : New w0 w (coB b s u 0 c v ho :: Z)) :
    Calls Tryz.prog 21 #[.pointer (some ⟨b, 0, none⟩)] w (Post (X := Unit) (fun _ => .int .i64 c.money) (fun _ => True) (fun _ => coB b s u 0 c v ho :: Z) w0) := by
  refine callsM hN Tryz.func21 rfl (n := 7) rfl (by simp) ?_
  refine TC.seq ?_
  refine TC.region ?_
  refine TL.pure (PV.assign rfl) rfl (by decide) ?_
  refine TL.nil ?_
  refine TQ.thenC ?_
  refine TC.seq ?_
  refine TC.region ?_
  refine TL.pure (PV.move rfl) rfl (by decide) ?_
  refine TL.callW (X := Unit) (fun _ => .agg (tyL c v).toArray) (fun _ => True) (fun _ => coB b s u 0 c v ho :: Z) rfl Tb.gofn_66 (fun a w hs => look_ok w0 w s hv u c v b ho Z hs.new) rfl (by decide) (fun _ _ => ?_)
  refine TL.pure (PV.field rfl (fd_0 _ _ _ _ _ _ _ _ _ _ _ _ _)) rfl (by decide) ?_
  refine TL.pure (PV.field rfl (fe_2 _ _ _ _ _ _ _)) rfl (by decide) ?_
  refine TL.pure (PV.assign rfl) rfl (by decide) ?_
  refine TL.nil ?_
  refine TQ.thenC ?_
  refine TC.ret ?_
  refine TQ.retE1 rfl rfl ?_
  exact ⟨(), rfl, trivial, List.Sublist.refl _⟩

set_option maxRecDepth 100000 in
theorem Cut_ok (w0 w : World) (s : St) (hv : SV s) (u : SU) (c : Co) (v : TV) (b : Nat) (ho : HD) (Z : Heap) (hN : New w0 w (coB b s u 0 c v ho :: Z)) :
    Calls Tryz.prog 22 #[.pointer (some ⟨b, 0, none⟩)] w (Post (X := Unit) (fun _ => .int .i64 c.cut) (fun _ => True) (fun _ => coB b s u 0 c v ho :: Z) w0) := by
  refine callsM hN Tryz.func22 rfl (n := 7) rfl (by simp) ?_
  refine TC.seq ?_
  refine TC.region ?_
  refine TL.pure (PV.assign rfl) rfl (by decide) ?_
  refine TL.nil ?_
  refine TQ.thenC ?_
  refine TC.seq ?_
  refine TC.region ?_
  refine TL.pure (PV.move rfl) rfl (by decide) ?_
  refine TL.callW (X := Unit) (fun _ => .agg (tyL c v).toArray) (fun _ => True) (fun _ => coB b s u 0 c v ho :: Z) rfl Tb.gofn_66 (fun a w hs => look_ok w0 w s hv u c v b ho Z hs.new) rfl (by decide) (fun _ _ => ?_)
  refine TL.pure (PV.field rfl (fd_0 _ _ _ _ _ _ _ _ _ _ _ _ _)) rfl (by decide) ?_
  refine TL.pure (PV.field rfl (fe_3 _ _ _ _ _ _ _)) rfl (by decide) ?_
  refine TL.pure (PV.assign rfl) rfl (by decide) ?_
  refine TL.nil ?_
  refine TQ.thenC ?_
  refine TC.ret ?_
  refine TQ.retE1 rfl rfl ?_
  exact ⟨(), rfl, trivial, List.Sublist.refl _⟩

end Go.Proofs.YtbnjmkidbfmomaaGreatDoor

