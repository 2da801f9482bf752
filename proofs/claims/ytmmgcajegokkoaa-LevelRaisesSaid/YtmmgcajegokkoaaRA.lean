/- Copies of surveys, and surveys with one more reading: contracts. -/
import Derived.Test.YtmmgcajegokkoaaRr
namespace Go.Proofs.Ytmmgcajegokkoaa
open Go.Sx Go.RowKit

theorem gvS_eq {h : HD} {l : List Rd} {K : Nat} (ho : goS h l) (hK : l.length = K) : gval h K = .slice (gp h) K (gc h) := by subst hK; exact gval_eq ho
theorem validateS (w : World) (n : Int) (h : HD) (K : Nat) (rs : List Rd) (hK : rs.length = K) (ho : goS h rs) (hr : RdsAt w (gp h) rs) :
    Calls Try.prog 23 #[.agg #[.int .i64 n, gval h K]] w (Post (X := Unit) (fun _ => .int .i64 (validateI n rs)) (fun _ => True) (fun _ => []) w) := by
  have hc := validate_ok w n (gp h) (gc h) rs hr
  rw [gvS_eq ho hK]; subst hK
  exact hc
theorem rvalidateS (w : World) (n : Int) (h : HD) (K : Nat) (rs : List Rd) (hK : rs.length = K) (ho : goS h rs) (hr : RdsAt w (gp h) rs) :
    Calls Try.prog 24 #[.agg #[.int .i64 n, gval h K]] w (Post (X := Unit) (fun _ => .int .i64 (validateI n rs)) (fun _ => True) (fun _ => []) w) := by
  have hc := rvalidate_ok w n (gp h) (gc h) rs hr
  rw [gvS_eq ho hK]; subst hK
  exact hc
theorem errorS (w : World) (n : Int) (h : HD) (K : Nat) (rs : List Rd) (hK : rs.length = K) (ho : goS h rs) (hr : RdsAt w (gp h) rs) (i j : Int) :
    Calls Try.prog 44 #[.agg #[.int .i64 n, gval h K], .int .i64 i, .int .i64 j] w (Post (X := Unit) (fun _ => .tuple #[.agg #[.int .i64 (errN n rs i j), .int .i64 (errD n rs i j)], .int .i64 (errE n rs i j)]) (fun _ => True) (fun _ => []) w) := by
  have hc := error_any w n (gp h) (gc h) rs hr i j
  rw [gvS_eq ho hK]; subst hK
  exact hc
/-- The code of a survey with one more reading. -/
def withE (n : Int) (rs : List Rd) (r : Rd) : Int := if validateI n rs ≠ 0 then validateI n rs else validateI n (rs ++ [r])
structure WF (n : Int) (rs : List Rd) (r : Rd) (x : Int × HD × List Rd) : Prop where
  num : x.1 = if withE n rs r = 0 then n else 0
  eq : x.2.2 = if withE n rs r = 0 then rs ++ [r] else []
  ok : goS x.2.1 x.2.2
theorem WF.bad {n : Int} {rs : List Rd} {r : Rd} (h : withE n rs r ≠ 0) : WF n rs r (0, none, []) := ⟨by rw [if_neg h], by rw [if_neg h], ⟨rfl, rfl⟩⟩
theorem WF.good {n : Int} {rs : List Rd} {r : Rd} {h : HD} (he : withE n rs r = 0) (ho : goS h (rs ++ [r])) : WF n rs r (n, h, rs ++ [r]) := ⟨by rw [if_pos he], by rw [if_pos he], ho⟩
theorem fill_rd (r : Rd) : Instr.fill (fun i => some (i * 4, 4)) ((Array.range (1 * 4)).map ((Value.agg #[(.int .i64 0), (.int .i64 0), (.int .i64 0), (.int .i64 0)]).cells[· % (Value.agg #[(.int .i64 0), (.int .i64 0), (.int .i64 0), (.int .i64 0)]).cells.size]!)) [(0, r.val)] = some r.cells.toArray := by kernel_rfl
def tN2 (n : Int) (rs : List Rd) : Int := if validateI n rs = 0 then n else 0
def tH2 (n : Int) (rs : List Rd) (h : HD) : HD := if validateI n rs = 0 then h else none
def tK2 (n : Int) (rs : List Rd) (K : Nat) : Nat := if validateI n rs = 0 then K else 0


set_option maxRecDepth 100000 in
theorem clone_ok (w0 : World) (p : Option Addr) (c K : Nat) (rs : List Rd) (hK : rs.length = K) (hr : RdsAt w0 p rs) (hl : K ≤ 100000) :
    Calls Try.prog 103 #[.slice p K c] w0 (Post (X := HD) (fun h => gval h K) (fun h => goS h rs) (fun h => gbS h rs) w0) := by
  refine calls Try.func103 rfl (n := 8) rfl (by simp) ?_
  refine TC.seq ?_
  refine TC.region ?_
  refine TL.pure (PV.assign rfl) rfl (by decide) ?_
  refine TL.nil ?_
  refine TQ.thenC ?_
  refine TC.seq ?_
  refine TC.seq ?_
  refine TC.region ?_
  refine TL.pure (PV.move rfl) rfl (by decide) ?_
  refine TL.pure (PV.cmp rfl rfl (nil22_guard _ _ _ _ _) (nil22 _ _ _)) rfl (by decide) ?_
  refine TL.nil ?_
  refine TQ.thenC ?_
  first | refine TC.condD rfl (fun hnil => ?_) (fun hnil => ?_) | refine TC.cond rfl (fun hnil => ?_) (fun hnil => ?_)
  · skip
    refine TC.seq ?_
    refine TC.region ?_
    refine TL.pure (PV.assign rfl) rfl (by decide) ?_
    refine TL.nil ?_
    refine TQ.thenC ?_
    refine TC.ret ?_
    refine TQ.thenR ?_
    refine TQ.retE1 rfl rfl ?_
    have hp0 : p = none := by cases p <;> simp_all
    subst hp0
    have hrs := rds_nil hr
    subst hrs
    exact ⟨none, by rw [← hK]; rfl, ⟨rfl, rfl⟩, List.nil_sublist _⟩
  · skip
    refine TC.skip ?_
    refine TQ.thenC ?_
    refine TC.seq ?_
    refine TC.region ?_
    refine TL.buildSlice0 Tb.sl_22 Tb.zi_61 rfl (by decide) (fun bE hbE => ?_)
    refine TL.pure (PV.move rfl) rfl (by decide) ?_
    refine TL.appendRS (h0 := some (bE, 0, [])) (ys := []) (K0 := 0) (K := K) rfl rfl rfl hK (fun w' hN => hr.new hN) ⟨rfl, rfl, Nat.le_refl _⟩ (TakeH.here (some (bE, 0, [])) 61 [] _) (by omega) rfl (by decide) (fun h1 hh1 => ?_)
    refine TL.pure (PV.assign rfl) rfl (by decide) ?_
    refine TL.nil ?_
    refine TQ.thenC ?_
    refine TC.ret ?_
    refine TQ.retE1 rfl rfl ?_
    exact ⟨h1, by rw [Nat.zero_add], hh1, List.sublist_append_left _ _⟩

set_option maxRecDepth 100000 in
theorem copied_ok (w0 : World) (n : Int) (p : Option Addr) (c K : Nat) (rs : List Rd) (hK : rs.length = K) (hr : RdsAt w0 p rs) (hl : K ≤ 100000) :
    Calls Try.prog 90 #[.agg #[.int .i64 n, .slice p K c]] w0 (Post (X := HD) (fun h => .agg #[.int .i64 n, gval h K]) (fun h => goS h rs) (fun h => gbS h rs) w0) := by
  refine calls Try.func90 rfl (n := 9) rfl (by simp) ?_
  refine TC.seq ?_
  refine TC.region ?_
  refine TL.box rfl rfl (by decide) (fun b0 hb0 => ?_)
  refine TL.alloc Tb.zero_24 rfl (by decide) (fun b1 hb1 => ?_)
  refine TL.nil ?_
  refine TQ.thenC ?_
  refine TC.seq ?_
  refine TC.mix [true, true, true, true, false, false, false] _ 3 Tb.mixed rfl (by kernel_rfl) (by kernel_rfl) (by kernel_rfl) (by kernel_rfl) (List.Sublist.refl _) ?_
  refine TB.op (SOK.pure (PV.fieldAddr rfl Tb.fo_24_0) rfl) (by decide) ?_
  refine TB.op (SOK.pure (PV.load rfl Tb.one_3 (by repeat (first | exact List.Mem.head _ | refine List.Mem.tail _ ?_ | refine List.mem_append_right _ ?_)) rfl) rfl) (by decide) ?_
  refine TB.op (SOK.pure (PV.fieldAddr rfl Tb.fo_24_1) rfl) (by decide) ?_
  refine TB.op (SOK.pure (PV.load rfl Tb.one_22 (by repeat (first | exact List.Mem.head _ | refine List.Mem.tail _ ?_ | refine List.mem_append_right _ ?_)) rfl) rfl) (by decide) ?_
  refine TB.no ?_
  refine TB.no ?_
  refine TB.no ?_
  refine TB.fin ?_
  refine TX.step [4] (by kernel_rfl) (by decide) ⟨⟨_, rfl, ?_⟩, trivial⟩
  refine TL.call rfl Tb.gofn_103 (fun a w hs => clone_ok w p c K rs hK (hr.new hs.new) hl) rfl (by decide) (fun h1 hh1 => ?_)
  refine TL.nil ?_
  refine TX.next (.inl (by repeat (first | exact List.Sublist.slnil | exact List.nil_sublist _ | exact List.Sublist.refl _ | refine List.Sublist.cons_cons _ ?_ | refine List.Sublist.cons _ ?_ | refine List.Sublist.trans ?_ (List.sublist_append_right _ _)))) ?_
  refine TX.step [5] (by kernel_rfl) (by decide) ⟨⟨_, rfl, ?_⟩, trivial⟩
  refine TL.pure (PV.build rfl Tb.zero_24 Tb.pl_24 (fill_sv _ _ _)) rfl (by decide) ?_
  refine TL.nil ?_
  refine TX.next (.inl (by repeat (first | exact List.Sublist.slnil | exact List.nil_sublist _ | exact List.Sublist.refl _ | refine List.Sublist.cons_cons _ ?_ | refine List.Sublist.cons _ ?_ | refine List.Sublist.trans ?_ (List.sublist_append_right _ _)))) ?_
  refine TX.step [6] (by kernel_rfl) (by decide) ⟨⟨_, rfl, ?_⟩, trivial⟩
  refine TL.storeAgg rfl rfl Tb.cells_24 (by repeat (first | exact Upd.head _ | apply Upd.tail | apply Upd.appR)) rfl rfl (by first | rfl | exact sv_one _ _ _) rfl rfl ?_
  refine TL.nil ?_
  refine TX.next (.inr (by kernel_rfl)) ?_
  refine TX.done (by kernel_rfl) ?_
  refine TQ.thenC ?_
  refine TC.ret ?_
  refine TQ.retR rfl (Res.agg rfl Tb.agg_24 (by repeat (first | exact List.Mem.head _ | refine List.Mem.tail _ ?_ | refine List.mem_append_right _ ?_)) rfl Res.nil) ?_
  simp only [tup]
  exact ⟨h1, rfl, hh1, by first | exact List.sublist_append_left _ _ | (refine List.Sublist.trans ?_ (List.sublist_append_right _ _); exact List.sublist_append_left _ _)⟩

set_option maxRecDepth 100000 in
theorem Copy_ok (w0 : World) (n : Int) (p : Option Addr) (c K : Nat) (rs : List Rd) (hK : rs.length = K) (hr : RdsAt w0 p rs) (hl : K ≤ 100000) :
    Calls Try.prog 54 #[.agg #[.int .i64 n, .slice p K c]] w0 (Post (X := HD) (fun h => .agg #[.int .i64 n, gval h K]) (fun h => goS h rs) (fun h => gbS h rs) w0) := by
  refine calls Try.func54 rfl (n := 10) rfl (by simp) ?_
  refine TC.seq ?_
  refine TC.region ?_
  refine TL.box rfl rfl (by decide) (fun b0 hb0 => ?_)
  refine TL.alloc Tb.zero_24 rfl (by decide) (fun b1 hb1 => ?_)
  refine TL.nil ?_
  refine TQ.thenC ?_
  refine TC.seq ?_
  refine TC.mix [true, true, false, true, true, false, false, false] _ 4 Tb.mixed rfl (by kernel_rfl) (by kernel_rfl) (by kernel_rfl) (by kernel_rfl) (List.Sublist.refl _) ?_
  refine TB.op (SOK.pure (PV.fieldAddr rfl Tb.fo_24_0) rfl) (by decide) ?_
  refine TB.op (SOK.pure (PV.load rfl Tb.one_3 (by repeat (first | exact List.Mem.head _ | refine List.Mem.tail _ ?_ | refine List.mem_append_right _ ?_)) rfl) rfl) (by decide) ?_
  refine TB.no ?_
  refine TB.op (SOK.pure (PV.fieldAddr rfl Tb.fo_24_1) rfl) (by decide) ?_
  refine TB.op (SOK.pure (PV.load rfl Tb.one_22 (by repeat (first | exact List.Mem.head _ | refine List.Mem.tail _ ?_ | refine List.mem_append_right _ ?_)) rfl) rfl) (by decide) ?_
  refine TB.no ?_
  refine TB.no ?_
  refine TB.no ?_
  refine TB.fin ?_
  refine TX.step [2] (by kernel_rfl) (by decide) ⟨⟨_, rfl, ?_⟩, trivial⟩
  refine TL.buildSlice0 Tb.sl_22 Tb.zi_61 rfl (by decide) (fun bE hbE => ?_)
  refine TL.nil ?_
  refine TX.next (.inl (by repeat (first | exact List.Sublist.slnil | exact List.nil_sublist _ | exact List.Sublist.refl _ | refine List.Sublist.cons_cons _ ?_ | refine List.Sublist.cons _ ?_ | refine List.Sublist.trans ?_ (List.sublist_append_right _ _)))) ?_
  refine TX.step [5] (by kernel_rfl) (by decide) ⟨⟨_, rfl, ?_⟩, trivial⟩
  refine TL.appendRS (h0 := some (bE, 0, [])) (ys := []) (K0 := 0) (K := K) rfl rfl rfl hK (fun w' hN => hr.new hN) ⟨rfl, rfl, Nat.le_refl _⟩ (TakeH.here (some (bE, 0, [])) 61 [] _) (by omega) rfl (by decide) (fun h1 hh1 => ?_)
  refine TL.nil ?_
  refine TX.next (.inl (by repeat (first | exact List.Sublist.slnil | exact List.nil_sublist _ | exact List.Sublist.refl _ | refine List.Sublist.cons_cons _ ?_ | refine List.Sublist.cons _ ?_ | refine List.Sublist.trans ?_ (List.sublist_append_right _ _)))) ?_
  refine TX.step [6] (by kernel_rfl) (by decide) ⟨⟨_, rfl, ?_⟩, trivial⟩
  refine TL.pure (PV.build rfl Tb.zero_24 Tb.pl_24 (fill_sv _ _ _)) rfl (by decide) ?_
  refine TL.nil ?_
  refine TX.next (.inl (by repeat (first | exact List.Sublist.slnil | exact List.nil_sublist _ | exact List.Sublist.refl _ | refine List.Sublist.cons_cons _ ?_ | refine List.Sublist.cons _ ?_ | refine List.Sublist.trans ?_ (List.sublist_append_right _ _)))) ?_
  refine TX.step [7] (by kernel_rfl) (by decide) ⟨⟨_, rfl, ?_⟩, trivial⟩
  refine TL.storeAgg rfl rfl Tb.cells_24 (by repeat (first | exact Upd.head _ | apply Upd.tail | apply Upd.appR)) rfl rfl (by first | rfl | exact sv_one _ _ _) rfl rfl ?_
  refine TL.nil ?_
  refine TX.next (.inr (by kernel_rfl)) ?_
  refine TX.done (by kernel_rfl) ?_
  refine TQ.thenC ?_
  refine TC.ret ?_
  refine TQ.retR rfl (Res.agg rfl Tb.agg_24 (by repeat (first | exact List.Mem.head _ | refine List.Mem.tail _ ?_ | refine List.mem_append_right _ ?_)) rfl Res.nil) ?_
  simp only [tup]
  exact ⟨h1, by simp only [Nat.zero_add], hh1, List.sublist_append_left _ _⟩

set_option maxRecDepth 100000 in
set_option maxHeartbeats 1000000 in
theorem With_ok (w0 : World) (n : Int) (p : Option Addr) (cap : Nat) (rs : List Rd) (hr : RdsAt w0 p rs) (hl : rs.length ≤ 1000) (r : Rd) :
    Calls Try.prog 51 #[sv n p rs.length cap, r.val] w0 (Post (X := (Int × HD × List Rd)) (fun x => .tuple #[.agg #[.int .i64 x.1, gval x.2.1 x.2.2.length], .int .i64 (withE n rs r)]) (WF n rs r) (fun x => gbS x.2.1 x.2.2) w0) := by
  refine calls Try.func51 rfl (n := 30) rfl (by simp) ?_
  refine TC.seq ?_
  refine TC.region ?_
  refine TL.box rfl rfl (by decide) (fun b0 hb0 => ?_)
  refine TL.box rfl rfl (by decide) (fun b1 hb1 => ?_)
  refine TL.alloc Tb.zero_24 rfl (by decide) (fun b2 hb2 => ?_)
  refine TL.pure (PV.assign rfl) rfl (by decide) ?_
  refine TL.nil ?_
  refine TQ.thenC ?_
  refine TC.seq ?_
  refine TC.seq ?_
  refine TC.region ?_
  refine TL.pure (PV.loadBox rfl Tb.agg_24 (by repeat (first | exact List.Mem.head _ | refine List.Mem.tail _ ?_ | refine List.mem_append_right _ ?_)) rfl) rfl (by decide) ?_
  refine TL.call rfl Tb.gofn_23 (fun a w hs => validate_ok w _ _ _ _ (hr.new hs.new)) rfl (by decide) (fun _ _ => ?_)
  refine TL.pure (PV.assign rfl) rfl (by decide) ?_
  refine TL.nil ?_
  refine TQ.thenC ?_
  refine TC.seq ?_
  refine TC.region ?_
  refine TL.pure (PV.move rfl) rfl (by decide) ?_
  refine TL.pure (PV.neq rfl rfl) rfl (by decide) ?_
  refine TL.nil ?_
  refine TQ.thenC ?_
  first | refine TC.condD rfl (fun hne => ?_) (fun hne => ?_) | refine TC.cond rfl (fun hne => ?_) (fun hne => ?_)
  · skip
    refine TC.seq ?_
    refine TC.region ?_
    refine TL.pure (PV.build rfl Tb.zero_24 Tb.pl_24 rfl) rfl (by decide) ?_
    refine TL.pure (PV.move rfl) rfl (by decide) ?_
    refine TL.storeAgg rfl rfl Tb.cells_24 (by repeat (first | exact Upd.head _ | apply Upd.tail | apply Upd.appR)) rfl rfl (by first | rfl | exact sv_one _ _ _) rfl rfl ?_
    refine TL.pure (PV.assign rfl) rfl (by decide) ?_
    refine TL.nil ?_
    refine TQ.thenC ?_
    refine TC.ret ?_
    refine TQ.thenR ?_
    refine TQ.retR rfl (Res.agg rfl Tb.agg_24 (by repeat (first | exact List.Mem.head _ | refine List.Mem.tail _ ?_ | refine List.mem_append_right _ ?_)) rfl (Res.tmp rfl Res.nil)) ?_
    simp only [tup]
    exact ⟨(0, none, []), by rw [show withE n rs r = validateI n rs from if_pos hne]; rfl, WF.bad (by rw [show withE n rs r = validateI n rs from if_pos hne]; exact hne), List.nil_sublist _⟩
  · skip
    refine TC.skip ?_
    refine TQ.thenC ?_
    refine TC.seq ?_
    refine TC.region ?_
    refine TL.pure (PV.loadBox rfl Tb.agg_24 (by repeat (first | exact List.Mem.head _ | refine List.Mem.tail _ ?_ | refine List.mem_append_right _ ?_)) rfl) rfl (by decide) ?_
    refine TL.call rfl Tb.gofn_90 (fun a w hs => copied_ok w n p cap rs.length rs rfl (hr.new hs.new) (by omega)) rfl (by decide) (fun h1 hh1 => ?_)
    refine TL.alloc Tb.zero_24 rfl (by decide) (fun b3 hb3 => ?_)
    refine TL.storeAgg rfl rfl Tb.cells_24 (by repeat (first | exact Upd.head _ | apply Upd.tail | apply Upd.appR)) rfl rfl (by first | rfl | exact sv_one _ _ _) rfl rfl ?_
    refine TL.nil ?_
    refine TQ.thenC ?_
    refine TC.seq ?_
    refine TC.region ?_
    refine TL.pure (PV.fieldAddr rfl Tb.fo_24_1) rfl (by decide) ?_
    refine TL.pure (PV.load rfl Tb.one_22 (by repeat (first | exact List.Mem.head _ | refine List.Mem.tail _ ?_ | refine List.mem_append_right _ ?_)) rfl) rfl (by decide) ?_
    refine TL.pure (PV.loadBox rfl Tb.agg_61 (by repeat (first | exact List.Mem.head _ | refine List.Mem.tail _ ?_ | refine List.mem_append_right _ ?_)) rfl) rfl (by decide) ?_
    refine TL.buildSlice (cs := r.cells.toArray) rfl Tb.sl_22 Tb.zi_61 (by decide) (fill_rd r) (by decide) rfl (by decide) (fun bI hbI => ?_)
    refine TL.appendRd (r := r) (ys := rs) rfl rfl (by repeat (first | exact List.Mem.head _ | refine List.Mem.tail _ ?_ | refine List.mem_append_right _ ?_)) rfl hh1 (by repeat (first | exact TakeH.here _ _ _ _ | apply TakeH.tail | apply TakeH.app)) (by omega) rfl (by decide) (fun h2 hh2 => ?_)
    refine TL.pure (PV.fieldAddr rfl Tb.fo_24_1) rfl (by decide) ?_
    refine TL.store rfl rfl Tb.cells_22 (gval_one _ _) (by repeat (first | exact Upd.head _ | apply Upd.tail | apply Upd.appR)) (by simp) rfl rfl ?_
    refine TL.nil ?_
    refine TQ.thenC ?_
    refine TC.seq ?_
    refine TC.seq ?_
    refine TC.region ?_
    refine TL.pure (PV.loadBox rfl Tb.agg_24 (by repeat (first | exact List.Mem.head _ | refine List.Mem.tail _ ?_ | refine List.mem_append_right _ ?_)) rfl) rfl (by decide) ?_
    refine TL.call rfl Tb.gofn_23 (fun a w hs => validateS w n h2 (rs.length + 1) (rs ++ [r]) (by simp) hh2 (RdsAt.s hs.new (fun yy hyy => by first | exact List.mem_append_left _ hyy | (simp only [List.mem_append, List.mem_cons]; simp [hyy])) hh2)) rfl (by decide) (fun _ _ => ?_)
    refine TL.pure (PV.assign rfl) rfl (by decide) ?_
    refine TL.nil ?_
    refine TQ.thenC ?_
    refine TC.seq ?_
    refine TC.region ?_
    refine TL.pure (PV.move rfl) rfl (by decide) ?_
    refine TL.pure (PV.neq rfl rfl) rfl (by decide) ?_
    refine TL.nil ?_
    refine TQ.thenC ?_
    first | refine TC.condD rfl (fun hne2 => ?_) (fun hne2 => ?_) | refine TC.cond rfl (fun hne2 => ?_) (fun hne2 => ?_)
    · skip
      refine TC.seq ?_
      refine TC.region ?_
      refine TL.pure (PV.build rfl Tb.zero_24 Tb.pl_24 rfl) rfl (by decide) ?_
      refine TL.pure (PV.move rfl) rfl (by decide) ?_
      refine TL.storeAgg rfl rfl Tb.cells_24 (by repeat (first | exact Upd.head _ | apply Upd.tail | apply Upd.appR)) rfl rfl (by first | rfl | exact sv_one _ _ _) rfl rfl ?_
      refine TL.pure (PV.assign rfl) rfl (by decide) ?_
      refine TL.nil ?_
      refine TQ.thenC ?_
      refine TC.ret ?_
      refine TQ.thenR ?_
      refine TQ.retR rfl (Res.agg rfl Tb.agg_24 (by repeat (first | exact List.Mem.head _ | refine List.Mem.tail _ ?_ | refine List.mem_append_right _ ?_)) rfl (Res.tmp rfl Res.nil)) ?_
      simp only [tup]
      exact ⟨(0, none, []), by rw [show withE n rs r = validateI n (rs ++ [r]) from if_neg hne]; rfl, WF.bad (by rw [show withE n rs r = validateI n (rs ++ [r]) from if_neg hne]; exact hne2), List.nil_sublist _⟩
    · skip
      refine TC.skip ?_
      refine TQ.thenC ?_
      refine TC.seq ?_
      refine TC.region ?_
      refine TL.pure (PV.loadBox rfl Tb.agg_24 (by repeat (first | exact List.Mem.head _ | refine List.Mem.tail _ ?_ | refine List.mem_append_right _ ?_)) rfl) rfl (by decide) ?_
      refine TL.storeAgg rfl rfl Tb.cells_24 (by repeat (first | exact Upd.head _ | apply Upd.tail | apply Upd.appR)) rfl rfl (by first | rfl | exact sv_one _ _ _) rfl rfl ?_
      refine TL.pure (PV.assign rfl) rfl (by decide) ?_
      refine TL.nil ?_
      refine TQ.thenC ?_
      refine TC.ret ?_
      refine TQ.retR rfl (Res.agg rfl Tb.agg_24 (by repeat (first | exact List.Mem.head _ | refine List.Mem.tail _ ?_ | refine List.mem_append_right _ ?_)) rfl (Res.tmp rfl Res.nil)) ?_
      simp only [tup]
      have hwz : withE n rs r = 0 := (if_neg hne).trans (by omega)
      exact ⟨(n, h2, rs ++ [r]), by rw [hwz]; simp, WF.good hwz hh2, by first | exact List.sublist_append_left _ _ | exact (List.sublist_append_left _ _).trans (List.sublist_append_right _ _)⟩

end Go.Proofs.Ytmmgcajegokkoaa
