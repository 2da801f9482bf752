/- At every survey, claim and reading TopHeights returns true, and what comes in reads as it did. Conditions: none. -/
import Derived.Test.YtmmgcajegokkoaaRr
import Derived.Test.YtmmgcajegokkoaaZ1
import Derived.Test.YtmmgcajegokkoaaU2
import Derived.Test.YtmmgcajegokkoaaMi
import Derived.Test.YtmmgcajegokkoaaS1
import Derived.Test.YtmmgcajegokkoaaV1
import Derived.Test.YtmmgcajegokkoaaOp
namespace Go.Proofs.Ytmmgcajegokkoaa
open Go.Sx Go.RowKit

theorem gvS_eq {h : HD} {l : List Rd} {K : Nat} (ho : goS h l) (hK : l.length = K) : gval h K = .slice (gp h) K (gc h) := by subst hK; exact gval_eq ho
theorem validateS (w : World) (n : Int) (h : HD) (K : Nat) (rs : List Rd) (hK : rs.length = K) (ho : goS h rs) (hr : RdsAt w (gp h) rs) :
    Calls Try.prog 23 #[.agg #[.int .i64 n, gval h K]] w (Post (X := Unit) (fun _ => .int .i64 (validateI n rs)) (fun _ => True) (fun _ => []) w) := by
  have hc := validate_ok w n (gp h) (gc h) rs hr
  rw [gvS_eq ho hK]; subst hK
  exact hc
theorem rvalidateS (w : World) (n : Int) (h : HD) (K : Nat) (rs : List Rd) (hK : rs.length = K) (ho : goS h rs) (hr : RdsAt w (gp h) rs) :
    Calls Try.prog 24 #[.agg #[.int .i64 n, gval h K]] w (Post (X := Unit) (fun _ => .int .i64 (validateI n rs)) (fun _ => True) (fun _ => []) w) := by
  have hc := rvalidate_ok w n (gp h) (gc h) rs hr
  rw [gvS_eq ho hK]; subst hK
  exact hc
theorem errorS (w : World) (n : Int) (h : HD) (K : Nat) (rs : List Rd) (hK : rs.length = K) (ho : goS h rs) (hr : RdsAt w (gp h) rs) (i j : Int) :
    Calls Try.prog 44 #[.agg #[.int .i64 n, gval h K], .int .i64 i, .int .i64 j] w (Post (X := Unit) (fun _ => .tuple #[.agg #[.int .i64 (errN n rs i j), .int .i64 (errD n rs i j)], .int .i64 (errE n rs i j)]) (fun _ => True) (fun _ => []) w) := by
  have hc := error_any w n (gp h) (gc h) rs hr i j
  rw [gvS_eq ho hK]; subst hK
  exact hc
/-- The code of a survey with one more reading. -/
def withE (n : Int) (rs : List Rd) (r : Rd) : Int := if validateI n rs ≠ 0 then validateI n rs else validateI n (rs ++ [r])
structure WF (n : Int) (rs : List Rd) (r : Rd) (x : Int × HD × List Rd) : Prop where
  num : x.1 = if withE n rs r = 0 then n else 0
  eq : x.2.2 = if withE n rs r = 0 then rs ++ [r] else []
  ok : goS x.2.1 x.2.2
theorem WF.bad {n : Int} {rs : List Rd} {r : Rd} (h : withE n rs r ≠ 0) : WF n rs r (0, none, []) := ⟨by rw [if_neg h], by rw [if_neg h], ⟨rfl, rfl⟩⟩
theorem WF.good {n : Int} {rs : List Rd} {r : Rd} {h : HD} (he : withE n rs r = 0) (ho : goS h (rs ++ [r])) : WF n rs r (n, h, rs ++ [r]) := ⟨by rw [if_pos he], by rw [if_pos he], ho⟩
theorem fill_rd (r : Rd) : Instr.fill (fun i => some (i * 4, 4)) ((Array.range (1 * 4)).map ((Value.agg #[(.int .i64 0), (.int .i64 0), (.int .i64 0), (.int .i64 0)]).cells[· % (Value.agg #[(.int .i64 0), (.int .i64 0), (.int .i64 0), (.int .i64 0)]).cells.size]!)) [(0, r.val)] = some r.cells.toArray := by kernel_rfl
def tN2 (n : Int) (rs : List Rd) : Int := if validateI n rs = 0 then n else 0
def tH2 (n : Int) (rs : List Rd) (h : HD) : HD := if validateI n rs = 0 then h else none
def tK2 (n : Int) (rs : List Rd) (K : Nat) : Nat := if validateI n rs = 0 then K else 0


set_option maxRecDepth 100000 in
theorem clone_ok (w0 : World) (p : Option Addr) (c K : Nat) (rs : List Rd) (hK : rs.length = K) (hr : RdsAt w0 p rs) (hl : K ≤ 100000) :
    Calls Try.prog 103 #[.slice p K c] w0 (Post (X := HD) (fun h => gval h K) (fun h => goS h rs) (fun h => gbS h rs) w0) := by
  refine calls Try.func103 rfl (n := 8) rfl (by simp) ?_
  refine TC.seq ?_
  refine TC.region ?_
  refine TL.pure (PV.assign rfl) rfl (by decide) ?_
  refine TL.nil ?_
  refine TQ.thenC ?_
  refine TC.seq ?_
  refine TC.seq ?_
  refine TC.region ?_
  refine TL.pure (PV.move rfl) rfl (by decide) ?_
  refine TL.pure (PV.cmp rfl rfl (nil22_guard _ _ _ _ _) (nil22 _ _ _)) rfl (by decide) ?_
  refine TL.nil ?_
  refine TQ.thenC ?_
  first | refine TC.condD rfl (fun hnil => ?_) (fun hnil => ?_) | refine TC.cond rfl (fun hnil => ?_) (fun hnil => ?_)
  · skip
    refine TC.seq ?_
    refine TC.region ?_
    refine TL.pure (PV.assign rfl) rfl (by decide) ?_
    refine TL.nil ?_
    refine TQ.thenC ?_
    refine TC.ret ?_
    refine TQ.thenR ?_
    refine TQ.retE1 rfl rfl ?_
    have hp0 : p = none := by cases p <;> simp_all
    subst hp0
    have hrs := rds_nil hr
    subst hrs
    exact ⟨none, by rw [← hK]; rfl, ⟨rfl, rfl⟩, List.nil_sublist _⟩
  · skip
    refine TC.skip ?_
    refine TQ.thenC ?_
    refine TC.seq ?_
    refine TC.region ?_
    refine TL.buildSlice0 Tb.sl_22 Tb.zi_61 rfl (by decide) (fun bE hbE => ?_)
    refine TL.pure (PV.move rfl) rfl (by decide) ?_
    refine TL.appendRS (h0 := some (bE, 0, [])) (ys := []) (K0 := 0) (K := K) rfl rfl rfl hK (fun w' hN => hr.new hN) ⟨rfl, rfl, Nat.le_refl _⟩ (TakeH.here (some (bE, 0, [])) 61 [] _) (by omega) rfl (by decide) (fun h1 hh1 => ?_)
    refine TL.pure (PV.assign rfl) rfl (by decide) ?_
    refine TL.nil ?_
    refine TQ.thenC ?_
    refine TC.ret ?_
    refine TQ.retE1 rfl rfl ?_
    exact ⟨h1, by rw [Nat.zero_add], hh1, List.sublist_append_left _ _⟩

set_option maxRecDepth 100000 in
theorem copied_ok (w0 : World) (n : Int) (p : Option Addr) (c K : Nat) (rs : List Rd) (hK : rs.length = K) (hr : RdsAt w0 p rs) (hl : K ≤ 100000) :
    Calls Try.prog 90 #[.agg #[.int .i64 n, .slice p K c]] w0 (Post (X := HD) (fun h => .agg #[.int .i64 n, gval h K]) (fun h => goS h rs) (fun h => gbS h rs) w0) := by
  refine calls Try.func90 rfl (n := 9) rfl (by simp) ?_
  refine TC.seq ?_
  refine TC.region ?_
  refine TL.box rfl rfl (by decide) (fun b0 hb0 => ?_)
  refine TL.alloc Tb.zero_24 rfl (by decide) (fun b1 hb1 => ?_)
  refine TL.nil ?_
  refine TQ.thenC ?_
  refine TC.seq ?_
  refine TC.mix [true, true, true, true, false, false, false] _ 3 Tb.mixed rfl (by kernel_rfl) (by kernel_rfl) (by kernel_rfl) (by kernel_rfl) (List.Sublist.refl _) ?_
  refine TB.op (SOK.pure (PV.fieldAddr rfl Tb.fo_24_0) rfl) (by decide) ?_
  refine TB.op (SOK.pure (PV.load rfl Tb.one_3 (by repeat (first | exact List.Mem.head _ | refine List.Mem.tail _ ?_ | refine List.mem_append_right _ ?_)) rfl) rfl) (by decide) ?_
  refine TB.op (SOK.pure (PV.fieldAddr rfl Tb.fo_24_1) rfl) (by decide) ?_
  refine TB.op (SOK.pure (PV.load rfl Tb.one_22 (by repeat (first | exact List.Mem.head _ | refine List.Mem.tail _ ?_ | refine List.mem_append_right _ ?_)) rfl) rfl) (by decide) ?_
  refine TB.no ?_
  refine TB.no ?_
  refine TB.no ?_
  refine TB.fin ?_
  refine TX.step [4] (by kernel_rfl) (by decide) ⟨⟨_, rfl, ?_⟩, trivial⟩
  refine TL.call rfl Tb.gofn_103 (fun a w hs => clone_ok w p c K rs hK (hr.new hs.new) hl) rfl (by decide) (fun h1 hh1 => ?_)
  refine TL.nil ?_
  refine TX.next (.inl (by repeat (first | exact List.Sublist.slnil | exact List.nil_sublist _ | exact List.Sublist.refl _ | refine List.Sublist.cons_cons _ ?_ | refine List.Sublist.cons _ ?_ | refine List.Sublist.trans ?_ (List.sublist_append_right _ _)))) ?_
  refine TX.step [5] (by kernel_rfl) (by decide) ⟨⟨_, rfl, ?_⟩, trivial⟩
  refine TL.pure (PV.build rfl Tb.zero_24 Tb.pl_24 (fill_sv _ _ _)) rfl (by decide) ?_
  refine TL.nil ?_
  refine TX.next (.inl (by repeat (first | exact List.Sublist.slnil | exact List.nil_sublist _ | exact List.Sublist.refl _ | refine List.Sublist.cons_cons _ ?_ | refine List.Sublist.cons _ ?_ | refine List.Sublist.trans ?_ (List.sublist_append_right _ _)))) ?_
  refine TX.step [6] (by kernel_rfl) (by decide) ⟨⟨_, rfl, ?_⟩, trivial⟩
  refine TL.storeAgg rfl rfl Tb.cells_24 (by repeat (first | exact Upd.head _ | apply Upd.tail | apply Upd.appR)) rfl rfl (by first | rfl | exact sv_one _ _ _) rfl rfl ?_
  refine TL.nil ?_
  refine TX.next (.inr (by kernel_rfl)) ?_
  refine TX.done (by kernel_rfl) ?_
  refine TQ.thenC ?_
  refine TC.ret ?_
  refine TQ.retR rfl (Res.agg rfl Tb.agg_24 (by repeat (first | exact List.Mem.head _ | refine List.Mem.tail _ ?_ | refine List.mem_append_right _ ?_)) rfl Res.nil) ?_
  simp only [tup]
  exact ⟨h1, rfl, hh1, by first | exact List.sublist_append_left _ _ | (refine List.Sublist.trans ?_ (List.sublist_append_right _ _); exact List.sublist_append_left _ _)⟩

set_option maxRecDepth 100000 in
theorem Copy_ok (w0 : World) (n : Int) (p : Option Addr) (c K : Nat) (rs : List Rd) (hK : rs.length = K) (hr : RdsAt w0 p rs) (hl : K ≤ 100000) :
    Calls Try.prog 54 #[.agg #[.int .i64 n, .slice p K c]] w0 (Post (X := HD) (fun h => .agg #[.int .i64 n, gval h K]) (fun h => goS h rs) (fun h => gbS h rs) w0) := by
  refine calls Try.func54 rfl (n := 10) rfl (by simp) ?_
  refine TC.seq ?_
  refine TC.region ?_
  refine TL.box rfl rfl (by decide) (fun b0 hb0 => ?_)
  refine TL.alloc Tb.zero_24 rfl (by decide) (fun b1 hb1 => ?_)
  refine TL.nil ?_
  refine TQ.thenC ?_
  refine TC.seq ?_
  refine TC.mix [true, true, false, true, true, false, false, false] _ 4 Tb.mixed rfl (by kernel_rfl) (by kernel_rfl) (by kernel_rfl) (by kernel_rfl) (List.Sublist.refl _) ?_
  refine TB.op (SOK.pure (PV.fieldAddr rfl Tb.fo_24_0) rfl) (by decide) ?_
  refine TB.op (SOK.pure (PV.load rfl Tb.one_3 (by repeat (first | exact List.Mem.head _ | refine List.Mem.tail _ ?_ | refine List.mem_append_right _ ?_)) rfl) rfl) (by decide) ?_
  refine TB.no ?_
  refine TB.op (SOK.pure (PV.fieldAddr rfl Tb.fo_24_1) rfl) (by decide) ?_
  refine TB.op (SOK.pure (PV.load rfl Tb.one_22 (by repeat (first | exact List.Mem.head _ | refine List.Mem.tail _ ?_ | refine List.mem_append_right _ ?_)) rfl) rfl) (by decide) ?_
  refine TB.no ?_
  refine TB.no ?_
  refine TB.no ?_
  refine TB.fin ?_
  refine TX.step [2] (by kernel_rfl) (by decide) ⟨⟨_, rfl, ?_⟩, trivial⟩
  refine TL.buildSlice0 Tb.sl_22 Tb.zi_61 rfl (by decide) (fun bE hbE => ?_)
  refine TL.nil ?_
  refine TX.next (.inl (by repeat (first | exact List.Sublist.slnil | exact List.nil_sublist _ | exact List.Sublist.refl _ | refine List.Sublist.cons_cons _ ?_ | refine List.Sublist.cons _ ?_ | refine List.Sublist.trans ?_ (List.sublist_append_right _ _)))) ?_
  refine TX.step [5] (by kernel_rfl) (by decide) ⟨⟨_, rfl, ?_⟩, trivial⟩
  refine TL.appendRS (h0 := some (bE, 0, [])) (ys := []) (K0 := 0) (K := K) rfl rfl rfl hK (fun w' hN => hr.new hN) ⟨rfl, rfl, Nat.le_refl _⟩ (TakeH.here (some (bE, 0, [])) 61 [] _) (by omega) rfl (by decide) (fun h1 hh1 => ?_)
  refine TL.nil ?_
  refine TX.next (.inl (by repeat (first | exact List.Sublist.slnil | exact List.nil_sublist _ | exact List.Sublist.refl _ | refine List.Sublist.cons_cons _ ?_ | refine List.Sublist.cons _ ?_ | refine List.Sublist.trans ?_ (List.sublist_append_right _ _)))) ?_
  refine TX.step [6] (by kernel_rfl) (by decide) ⟨⟨_, rfl, ?_⟩, trivial⟩
  refine TL.pure (PV.build rfl Tb.zero_24 Tb.pl_24 (fill_sv _ _ _)) rfl (by decide) ?_
  refine TL.nil ?_
  refine TX.next (.inl (by repeat (first | exact List.Sublist.slnil | exact List.nil_sublist _ | exact List.Sublist.refl _ | refine List.Sublist.cons_cons _ ?_ | refine List.Sublist.cons _ ?_ | refine List.Sublist.trans ?_ (List.sublist_append_right _ _)))) ?_
  refine TX.step [7] (by kernel_rfl) (by decide) ⟨⟨_, rfl, ?_⟩, trivial⟩
  refine TL.storeAgg rfl rfl Tb.cells_24 (by repeat (first | exact Upd.head _ | apply Upd.tail | apply Upd.appR)) rfl rfl (by first | rfl | exact sv_one _ _ _) rfl rfl ?_
  refine TL.nil ?_
  refine TX.next (.inr (by kernel_rfl)) ?_
  refine TX.done (by kernel_rfl) ?_
  refine TQ.thenC ?_
  refine TC.ret ?_
  refine TQ.retR rfl (Res.agg rfl Tb.agg_24 (by repeat (first | exact List.Mem.head _ | refine List.Mem.tail _ ?_ | refine List.mem_append_right _ ?_)) rfl Res.nil) ?_
  simp only [tup]
  exact ⟨h1, by simp only [Nat.zero_add], hh1, List.sublist_append_left _ _⟩

set_option maxRecDepth 100000 in
set_option maxHeartbeats 1000000 in
theorem With_ok (w0 : World) (n : Int) (p : Option Addr) (cap : Nat) (rs : List Rd) (hr : RdsAt w0 p rs) (hl : rs.length ≤ 1000) (r : Rd) :
    Calls Try.prog 51 #[sv n p rs.length cap, r.val] w0 (Post (X := (Int × HD × List Rd)) (fun x => .tuple #[.agg #[.int .i64 x.1, gval x.2.1 x.2.2.length], .int .i64 (withE n rs r)]) (WF n rs r) (fun x => gbS x.2.1 x.2.2) w0) := by
  refine calls Try.func51 rfl (n := 30) rfl (by simp) ?_
  refine TC.seq ?_
  refine TC.region ?_
  refine TL.box rfl rfl (by decide) (fun b0 hb0 => ?_)
  refine TL.box rfl rfl (by decide) (fun b1 hb1 => ?_)
  refine TL.alloc Tb.zero_24 rfl (by decide) (fun b2 hb2 => ?_)
  refine TL.pure (PV.assign rfl) rfl (by decide) ?_
  refine TL.nil ?_
  refine TQ.thenC ?_
  refine TC.seq ?_
  refine TC.seq ?_
  refine TC.region ?_
  refine TL.pure (PV.loadBox rfl Tb.agg_24 (by repeat (first | exact List.Mem.head _ | refine List.Mem.tail _ ?_ | refine List.mem_append_right _ ?_)) rfl) rfl (by decide) ?_
  refine TL.call rfl Tb.gofn_23 (fun a w hs => validate_ok w _ _ _ _ (hr.new hs.new)) rfl (by decide) (fun _ _ => ?_)
  refine TL.pure (PV.assign rfl) rfl (by decide) ?_
  refine TL.nil ?_
  refine TQ.thenC ?_
  refine TC.seq ?_
  refine TC.region ?_
  refine TL.pure (PV.move rfl) rfl (by decide) ?_
  refine TL.pure (PV.neq rfl rfl) rfl (by decide) ?_
  refine TL.nil ?_
  refine TQ.thenC ?_
  first | refine TC.condD rfl (fun hne => ?_) (fun hne => ?_) | refine TC.cond rfl (fun hne => ?_) (fun hne => ?_)
  · skip
    refine TC.seq ?_
    refine TC.region ?_
    refine TL.pure (PV.build rfl Tb.zero_24 Tb.pl_24 rfl) rfl (by decide) ?_
    refine TL.pure (PV.move rfl) rfl (by decide) ?_
    refine TL.storeAgg rfl rfl Tb.cells_24 (by repeat (first | exact Upd.head _ | apply Upd.tail | apply Upd.appR)) rfl rfl (by first | rfl | exact sv_one _ _ _) rfl rfl ?_
    refine TL.pure (PV.assign rfl) rfl (by decide) ?_
    refine TL.nil ?_
    refine TQ.thenC ?_
    refine TC.ret ?_
    refine TQ.thenR ?_
    refine TQ.retR rfl (Res.agg rfl Tb.agg_24 (by repeat (first | exact List.Mem.head _ | refine List.Mem.tail _ ?_ | refine List.mem_append_right _ ?_)) rfl (Res.tmp rfl Res.nil)) ?_
    simp only [tup]
    exact ⟨(0, none, []), by rw [show withE n rs r = validateI n rs from if_pos hne]; rfl, WF.bad (by rw [show withE n rs r = validateI n rs from if_pos hne]; exact hne), List.nil_sublist _⟩
  · skip
    refine TC.skip ?_
    refine TQ.thenC ?_
    refine TC.seq ?_
    refine TC.region ?_
    refine TL.pure (PV.loadBox rfl Tb.agg_24 (by repeat (first | exact List.Mem.head _ | refine List.Mem.tail _ ?_ | refine List.mem_append_right _ ?_)) rfl) rfl (by decide) ?_
    refine TL.call rfl Tb.gofn_90 (fun a w hs => copied_ok w n p cap rs.length rs rfl (hr.new hs.new) (by omega)) rfl (by decide) (fun h1 hh1 => ?_)
    refine TL.alloc Tb.zero_24 rfl (by decide) (fun b3 hb3 => ?_)
    refine TL.storeAgg rfl rfl Tb.cells_24 (by repeat (first | exact Upd.head _ | apply Upd.tail | apply Upd.appR)) rfl rfl (by first | rfl | exact sv_one _ _ _) rfl rfl ?_
    refine TL.nil ?_
    refine TQ.thenC ?_
    refine TC.seq ?_
    refine TC.region ?_
    refine TL.pure (PV.fieldAddr rfl Tb.fo_24_1) rfl (by decide) ?_
    refine TL.pure (PV.load rfl Tb.one_22 (by repeat (first | exact List.Mem.head _ | refine List.Mem.tail _ ?_ | refine List.mem_append_right _ ?_)) rfl) rfl (by decide) ?_
    refine TL.pure (PV.loadBox rfl Tb.agg_61 (by repeat (first | exact List.Mem.head _ | refine List.Mem.tail _ ?_ | refine List.mem_append_right _ ?_)) rfl) rfl (by decide) ?_
    refine TL.buildSlice (cs := r.cells.toArray) rfl Tb.sl_22 Tb.zi_61 (by decide) (fill_rd r) (by decide) rfl (by decide) (fun bI hbI => ?_)
    refine TL.appendRd (r := r) (ys := rs) rfl rfl (by repeat (first | exact List.Mem.head _ | refine List.Mem.tail _ ?_ | refine List.mem_append_right _ ?_)) rfl hh1 (by repeat (first | exact TakeH.here _ _ _ _ | apply TakeH.tail | apply TakeH.app)) (by omega) rfl (by decide) (fun h2 hh2 => ?_)
    refine TL.pure (PV.fieldAddr rfl Tb.fo_24_1) rfl (by decide) ?_
    refine TL.store rfl rfl Tb.cells_22 (gval_one _ _) (by repeat (first | exact Upd.head _ | apply Upd.tail | apply Upd.appR)) (by simp) rfl rfl ?_
    refine TL.nil ?_
    refine TQ.thenC ?_
    refine TC.seq ?_
    refine TC.seq ?_
    refine TC.region ?_
    refine TL.pure (PV.loadBox rfl Tb.agg_24 (by repeat (first | exact List.Mem.head _ | refine List.Mem.tail _ ?_ | refine List.mem_append_right _ ?_)) rfl) rfl (by decide) ?_
    refine TL.call rfl Tb.gofn_23 (fun a w hs => validateS w n h2 (rs.length + 1) (rs ++ [r]) (by simp) hh2 (RdsAt.s hs.new (fun yy hyy => by first | exact List.mem_append_left _ hyy | (simp only [List.mem_append, List.mem_cons]; simp [hyy])) hh2)) rfl (by decide) (fun _ _ => ?_)
    refine TL.pure (PV.assign rfl) rfl (by decide) ?_
    refine TL.nil ?_
    refine TQ.thenC ?_
    refine TC.seq ?_
    refine TC.region ?_
    refine TL.pure (PV.move rfl) rfl (by decide) ?_
    refine TL.pure (PV.neq rfl rfl) rfl (by decide) ?_
    refine TL.nil ?_
    refine TQ.thenC ?_
    first | refine TC.condD rfl (fun hne2 => ?_) (fun hne2 => ?_) | refine TC.cond rfl (fun hne2 => ?_) (fun hne2 => ?_)
    · skip
      refine TC.seq ?_
      refine TC.region ?_
      refine TL.pure (PV.build rfl Tb.zero_24 Tb.pl_24 rfl) rfl (by decide) ?_
      refine TL.pure (PV.move rfl) rfl (by decide) ?_
      refine TL.storeAgg rfl rfl Tb.cells_24 (by repeat (first | exact Upd.head _ | apply Upd.tail | apply Upd.appR)) rfl rfl (by first | rfl | exact sv_one _ _ _) rfl rfl ?_
      refine TL.pure (PV.assign rfl) rfl (by decide) ?_
      refine TL.nil ?_
      refine TQ.thenC ?_
      refine TC.ret ?_
      refine TQ.thenR ?_
      refine TQ.retR rfl (Res.agg rfl Tb.agg_24 (by repeat (first | exact List.Mem.head _ | refine List.Mem.tail _ ?_ | refine List.mem_append_right _ ?_)) rfl (Res.tmp rfl Res.nil)) ?_
      simp only [tup]
      exact ⟨(0, none, []), by rw [show withE n rs r = validateI n (rs ++ [r]) from if_neg hne]; rfl, WF.bad (by rw [show withE n rs r = validateI n (rs ++ [r]) from if_neg hne]; exact hne2), List.nil_sublist _⟩
    · skip
      refine TC.skip ?_
      refine TQ.thenC ?_
      refine TC.seq ?_
      refine TC.region ?_
      refine TL.pure (PV.loadBox rfl Tb.agg_24 (by repeat (first | exact List.Mem.head _ | refine List.Mem.tail _ ?_ | refine List.mem_append_right _ ?_)) rfl) rfl (by decide) ?_
      refine TL.storeAgg rfl rfl Tb.cells_24 (by repeat (first | exact Upd.head _ | apply Upd.tail | apply Upd.appR)) rfl rfl (by first | rfl | exact sv_one _ _ _) rfl rfl ?_
      refine TL.pure (PV.assign rfl) rfl (by decide) ?_
      refine TL.nil ?_
      refine TQ.thenC ?_
      refine TC.ret ?_
      refine TQ.retR rfl (Res.agg rfl Tb.agg_24 (by repeat (first | exact List.Mem.head _ | refine List.Mem.tail _ ?_ | refine List.mem_append_right _ ?_)) rfl (Res.tmp rfl Res.nil)) ?_
      simp only [tup]
      have hwz : withE n rs r = 0 := (if_neg hne).trans (by omega)
      exact ⟨(n, h2, rs ++ [r]), by rw [hwz]; simp, WF.good hwz hh2, by first | exact List.sublist_append_left _ _ | exact (List.sublist_append_left _ _).trans (List.sublist_append_right _ _)⟩

end Go.Proofs.Ytmmgcajegokkoaa

namespace Go.Proofs.Ytmmgcajegokkoaa
open Go.Sx Go.RowKit

theorem WF.told {n : Int} {rs : List Rd} {r : Rd} {h : HD} (hv : ¬ validateI n rs ≠ 0) (ho : goS h (rs ++ [r])) :
    ∃ x : Int × HD × List Rd, (Value.tuple #[.agg #[.int .i64 (tN2 n (rs ++ [r])), gval (tH2 n (rs ++ [r]) h) (tK2 n (rs ++ [r]) (rs.length + 1))], .int .i64 (validateI n (rs ++ [r]))] : Value) = .tuple #[.agg #[.int .i64 x.1, gval x.2.1 x.2.2.length], .int .i64 (withE n rs r)] ∧ WF n rs r x ∧ (gbS x.2.1 x.2.2).Sublist (gbS h (rs ++ [r])) := by
  have hw : withE n rs r = validateI n (rs ++ [r]) := if_neg hv
  by_cases hz : validateI n (rs ++ [r]) = 0
  · refine ⟨(n, h, rs ++ [r]), ?_, WF.good (hw.trans hz) ho, List.Sublist.refl _⟩
    rw [show tN2 n (rs ++ [r]) = n from if_pos hz, show tH2 n (rs ++ [r]) h = h from if_pos hz, show tK2 n (rs ++ [r]) (rs.length + 1) = rs.length + 1 from if_pos hz, hw]; simp
  · refine ⟨(0, none, []), ?_, WF.bad (by rw [hw]; exact hz), List.nil_sublist _⟩
    rw [show tN2 n (rs ++ [r]) = 0 from if_neg hz, show tH2 n (rs ++ [r]) h = none from if_neg hz, show tK2 n (rs ++ [r]) (rs.length + 1) = 0 from if_neg hz, hw]; simp


set_option maxRecDepth 100000 in
theorem told_ok (w0 : World) (n : Int) (h : HD) (K : Nat) (rs : List Rd) (hK : rs.length = K) (ho : goS h rs) (hr : RdsAt w0 (gp h) rs) :
    Calls Try.prog 91 #[.agg #[.int .i64 n, gval h K]] w0 (Post (X := Unit) (fun _ => .tuple #[.agg #[.int .i64 (tN2 n rs), gval (tH2 n rs h) (tK2 n rs K)], .int .i64 (validateI n rs)]) (fun _ => True) (fun _ => []) w0) := by
  refine calls Try.func91 rfl (n := 12) rfl (by simp) ?_
  refine TC.seq ?_
  refine TC.region ?_
  refine TL.box rfl rfl (by decide) (fun b0 hb0 => ?_)
  refine TL.alloc Tb.zero_24 rfl (by decide) (fun b1 hb1 => ?_)
  refine TL.pure (PV.assign rfl) rfl (by decide) ?_
  refine TL.nil ?_
  refine TQ.thenC ?_
  refine TC.seq ?_
  refine TC.seq ?_
  refine TC.region ?_
  refine TL.pure (PV.loadBox rfl Tb.agg_24 (by repeat (first | exact List.Mem.head _ | refine List.Mem.tail _ ?_ | refine List.mem_append_right _ ?_)) rfl) rfl (by decide) ?_
  refine TL.call rfl Tb.gofn_24 (fun a w hs => rvalidateS w n h K rs hK ho (hr.new hs.new)) rfl (by decide) (fun _ _ => ?_)
  refine TL.pure (PV.assign rfl) rfl (by decide) ?_
  refine TL.nil ?_
  refine TQ.thenC ?_
  refine TC.seq ?_
  refine TC.region ?_
  refine TL.pure (PV.move rfl) rfl (by decide) ?_
  refine TL.pure (PV.neq rfl rfl) rfl (by decide) ?_
  refine TL.nil ?_
  refine TQ.thenC ?_
  first | refine TC.condD rfl (fun hne => ?_) (fun hne => ?_) | refine TC.cond rfl (fun hne => ?_) (fun hne => ?_)
  · skip
    refine TC.seq ?_
    refine TC.region ?_
    refine TL.pure (PV.build rfl Tb.zero_24 Tb.pl_24 rfl) rfl (by decide) ?_
    refine TL.pure (PV.move rfl) rfl (by decide) ?_
    refine TL.storeAgg rfl rfl Tb.cells_24 (by repeat (first | exact Upd.head _ | apply Upd.tail | apply Upd.appR)) rfl rfl (by first | rfl | exact sv_one _ _ _) rfl rfl ?_
    refine TL.pure (PV.assign rfl) rfl (by decide) ?_
    refine TL.nil ?_
    refine TQ.thenC ?_
    refine TC.ret ?_
    refine TQ.thenR ?_
    refine TQ.retR rfl (Res.agg rfl Tb.agg_24 (by repeat (first | exact List.Mem.head _ | refine List.Mem.tail _ ?_ | refine List.mem_append_right _ ?_)) rfl (Res.tmp rfl Res.nil)) ?_
    simp only [tup]
    exact ⟨(), by rw [show tN2 n rs = 0 from if_neg hne, show tH2 n rs h = none from if_neg hne, show tK2 n rs K = 0 from if_neg hne]; rfl, trivial, List.nil_sublist _⟩
  · skip
    refine TC.skip ?_
    refine TQ.thenC ?_
    refine TC.seq ?_
    refine TC.region ?_
    refine TL.pure (PV.loadBox rfl Tb.agg_24 (by repeat (first | exact List.Mem.head _ | refine List.Mem.tail _ ?_ | refine List.mem_append_right _ ?_)) rfl) rfl (by decide) ?_
    refine TL.storeAgg rfl rfl Tb.cells_24 (by repeat (first | exact Upd.head _ | apply Upd.tail | apply Upd.appR)) rfl rfl (by first | rfl | exact sv_one _ _ _) rfl rfl ?_
    refine TL.pure (PV.assign rfl) rfl (by decide) ?_
    refine TL.nil ?_
    refine TQ.thenC ?_
    refine TC.ret ?_
    refine TQ.retR rfl (Res.agg rfl Tb.agg_24 (by repeat (first | exact List.Mem.head _ | refine List.Mem.tail _ ?_ | refine List.mem_append_right _ ?_)) rfl (Res.tmp rfl Res.nil)) ?_
    simp only [tup]
    have hz : validateI n rs = 0 := by omega
    exact ⟨(), by rw [show tN2 n rs = n from if_pos hz, show tH2 n rs h = h from if_pos hz, show tK2 n rs K = K from if_pos hz, hz], trivial, List.nil_sublist _⟩

set_option maxRecDepth 100000 in
set_option maxHeartbeats 1000000 in
theorem rWith_ok (w0 : World) (n : Int) (p : Option Addr) (cap : Nat) (rs : List Rd) (hr : RdsAt w0 p rs) (hl : rs.length ≤ 1000) (r : Rd) :
    Calls Try.prog 52 #[sv n p rs.length cap, r.val] w0 (Post (X := (Int × HD × List Rd)) (fun x => .tuple #[.agg #[.int .i64 x.1, gval x.2.1 x.2.2.length], .int .i64 (withE n rs r)]) (WF n rs r) (fun x => gbS x.2.1 x.2.2) w0) := by
  refine calls Try.func52 rfl (n := 26) rfl (by simp) ?_
  refine TC.seq ?_
  refine TC.region ?_
  refine TL.box rfl rfl (by decide) (fun b0 hb0 => ?_)
  refine TL.box rfl rfl (by decide) (fun b1 hb1 => ?_)
  refine TL.alloc Tb.zero_24 rfl (by decide) (fun b2 hb2 => ?_)
  refine TL.pure (PV.assign rfl) rfl (by decide) ?_
  refine TL.nil ?_
  refine TQ.thenC ?_
  refine TC.seq ?_
  refine TC.seq ?_
  refine TC.region ?_
  refine TL.pure (PV.loadBox rfl Tb.agg_24 (by repeat (first | exact List.Mem.head _ | refine List.Mem.tail _ ?_ | refine List.mem_append_right _ ?_)) rfl) rfl (by decide) ?_
  refine TL.call rfl Tb.gofn_24 (fun a w hs => rvalidate_ok w _ _ _ _ (hr.new hs.new)) rfl (by decide) (fun _ _ => ?_)
  refine TL.pure (PV.assign rfl) rfl (by decide) ?_
  refine TL.nil ?_
  refine TQ.thenC ?_
  refine TC.seq ?_
  refine TC.region ?_
  refine TL.pure (PV.move rfl) rfl (by decide) ?_
  refine TL.pure (PV.neq rfl rfl) rfl (by decide) ?_
  refine TL.nil ?_
  refine TQ.thenC ?_
  first | refine TC.condD rfl (fun hne => ?_) (fun hne => ?_) | refine TC.cond rfl (fun hne => ?_) (fun hne => ?_)
  · skip
    refine TC.seq ?_
    refine TC.region ?_
    refine TL.pure (PV.build rfl Tb.zero_24 Tb.pl_24 rfl) rfl (by decide) ?_
    refine TL.pure (PV.move rfl) rfl (by decide) ?_
    refine TL.storeAgg rfl rfl Tb.cells_24 (by repeat (first | exact Upd.head _ | apply Upd.tail | apply Upd.appR)) rfl rfl (by first | rfl | exact sv_one _ _ _) rfl rfl ?_
    refine TL.pure (PV.assign rfl) rfl (by decide) ?_
    refine TL.nil ?_
    refine TQ.thenC ?_
    refine TC.ret ?_
    refine TQ.thenR ?_
    refine TQ.retR rfl (Res.agg rfl Tb.agg_24 (by repeat (first | exact List.Mem.head _ | refine List.Mem.tail _ ?_ | refine List.mem_append_right _ ?_)) rfl (Res.tmp rfl Res.nil)) ?_
    simp only [tup]
    exact ⟨(0, none, []), by rw [show withE n rs r = validateI n rs from if_pos hne]; rfl, WF.bad (by rw [show withE n rs r = validateI n rs from if_pos hne]; exact hne), List.nil_sublist _⟩
  · skip
    refine TC.skip ?_
    refine TQ.thenC ?_
    refine TC.seq ?_
    refine TC.region ?_
    refine TL.pure (PV.loadBox rfl Tb.agg_24 (by repeat (first | exact List.Mem.head _ | refine List.Mem.tail _ ?_ | refine List.mem_append_right _ ?_)) rfl) rfl (by decide) ?_
    refine TL.call rfl Tb.gofn_54 (fun a w hs => Copy_ok w n p cap rs.length rs rfl (hr.new hs.new) (by omega)) rfl (by decide) (fun h1 hh1 => ?_)
    refine TL.alloc Tb.zero_24 rfl (by decide) (fun b3 hb3 => ?_)
    refine TL.storeAgg rfl rfl Tb.cells_24 (by repeat (first | exact Upd.head _ | apply Upd.tail | apply Upd.appR)) rfl rfl (by first | rfl | exact sv_one _ _ _) rfl rfl ?_
    refine TL.nil ?_
    refine TQ.thenC ?_
    refine TC.seq ?_
    refine TC.region ?_
    refine TL.pure (PV.fieldAddr rfl Tb.fo_24_1) rfl (by decide) ?_
    refine TL.pure (PV.load rfl Tb.one_22 (by repeat (first | exact List.Mem.head _ | refine List.Mem.tail _ ?_ | refine List.mem_append_right _ ?_)) rfl) rfl (by decide) ?_
    refine TL.pure (PV.loadBox rfl Tb.agg_61 (by repeat (first | exact List.Mem.head _ | refine List.Mem.tail _ ?_ | refine List.mem_append_right _ ?_)) rfl) rfl (by decide) ?_
    refine TL.buildSlice (cs := r.cells.toArray) rfl Tb.sl_22 Tb.zi_61 (by decide) (fill_rd r) (by decide) rfl (by decide) (fun bI hbI => ?_)
    refine TL.appendRd (r := r) (ys := rs) rfl rfl (by repeat (first | exact List.Mem.head _ | refine List.Mem.tail _ ?_ | refine List.mem_append_right _ ?_)) rfl hh1 (by repeat (first | exact TakeH.here _ _ _ _ | apply TakeH.tail | apply TakeH.app)) (by omega) rfl (by decide) (fun h2 hh2 => ?_)
    refine TL.pure (PV.fieldAddr rfl Tb.fo_24_1) rfl (by decide) ?_
    refine TL.store rfl rfl Tb.cells_22 (gval_one _ _) (by repeat (first | exact Upd.head _ | apply Upd.tail | apply Upd.appR)) (by simp) rfl rfl ?_
    refine TL.nil ?_
    refine TQ.thenC ?_
    refine TC.seq ?_
    refine TC.region ?_
    refine TL.pure (PV.loadBox rfl Tb.agg_24 (by repeat (first | exact List.Mem.head _ | refine List.Mem.tail _ ?_ | refine List.mem_append_right _ ?_)) rfl) rfl (by decide) ?_
    refine TL.call rfl Tb.gofn_91 (fun a w hs => told_ok w n h2 (rs.length + 1) (rs ++ [r]) (by simp) hh2 (RdsAt.s hs.new (fun yy hyy => by first | exact List.mem_append_left _ hyy | (simp only [List.mem_append, List.mem_cons]; simp [hyy])) hh2)) rfl (by decide) (fun _ _ => ?_)
    refine TL.pure (PV.extract rfl rfl) rfl (by decide) ?_
    refine TL.pure (PV.extract rfl rfl) rfl (by decide) ?_
    refine TL.storeAgg rfl rfl Tb.cells_24 (by repeat (first | exact Upd.head _ | apply Upd.tail | apply Upd.appR)) rfl rfl (by first | rfl | exact sv_one _ _ _) rfl rfl ?_
    refine TL.pure (PV.assign rfl) rfl (by decide) ?_
    refine TL.nil ?_
    refine TQ.thenC ?_
    refine TC.ret ?_
    refine TQ.retR rfl (Res.agg rfl Tb.agg_24 (by repeat (first | exact List.Mem.head _ | refine List.Mem.tail _ ?_ | refine List.mem_append_right _ ?_)) rfl (Res.tmp rfl Res.nil)) ?_
    simp only [tup]
    obtain ⟨x, hx1, hx2, hx3⟩ := WF.told hne hh2
    exact ⟨x, hx1, hx2, hx3.trans (by first | exact List.sublist_append_left _ _ | exact (List.sublist_append_left _ _).trans (List.sublist_append_right _ _))⟩

end Go.Proofs.Ytmmgcajegokkoaa

namespace Go.Proofs.Ytmmgcajegokkoaa
open Go.Sx Go.RowKit

def sameB (n1 n2 : Int) (rs1 rs2 : List Rd) : Bool := decide (n1 = n2 ∧ rs1 = rs2)


set_option maxRecDepth 100000 in
set_option maxHeartbeats 1000000 in
theorem Same_ok (w0 : World) (n1 n2 : Int) (p1 p2 : Option Addr) (c1 c2 : Nat) (rs1 rs2 : List Rd) (h1 : RdsAt w0 p1 rs1) (h2 : RdsAt w0 p2 rs2) (hl : rs1.length ≤ 100000) (hl2 : rs2.length ≤ 100000) :
    Calls Try.prog 53 #[sv n1 p1 rs1.length c1, sv n2 p2 rs2.length c2] w0 (Post (X := Unit) (fun _ => .bool (sameB n1 n2 rs1 rs2)) (fun _ => True) (fun _ => []) w0) := by
  refine calls Try.func53 rfl (n := 38) rfl (by simp) ?_
  refine TC.seq ?_
  refine TC.region ?_
  refine TL.box rfl rfl (by decide) (fun b0 hb0 => ?_)
  refine TL.box rfl rfl (by decide) (fun b1 hb1 => ?_)
  refine TL.pure (PV.assign rfl) rfl (by decide) ?_
  refine TL.nil ?_
  refine TQ.thenC ?_
  refine TC.seq ?_
  refine TC.seq ?_
  refine TC.region ?_
  refine TL.pure (PV.fieldAddr rfl Tb.fo_24_0) rfl (by decide) ?_
  refine TL.pure (PV.load rfl Tb.one_3 (by repeat (first | exact List.Mem.head _ | refine List.Mem.tail _ ?_ | refine List.mem_append_right _ ?_)) rfl) rfl (by decide) ?_
  refine TL.pure (PV.fieldAddr rfl Tb.fo_24_0) rfl (by decide) ?_
  refine TL.pure (PV.load rfl Tb.one_3 (by repeat (first | exact List.Mem.head _ | refine List.Mem.tail _ ?_ | refine List.mem_append_right _ ?_)) rfl) rfl (by decide) ?_
  refine TL.pure (PV.neq rfl rfl) rfl (by decide) ?_
  refine TL.pure (PV.move rfl) rfl (by decide) ?_
  first | refine TL.splitD 11 rfl (fun hg => ?_) (fun hg => ?_) | refine TL.split 11 rfl (fun hg => ?_) (fun hg => ?_)
  · skip
    refine TL.skip rfl (fun k hk => by cases hk; decide) ?_
    refine TL.skip rfl (fun k hk => by cases hk; decide) ?_
    refine TL.skip rfl (fun k hk => by cases hk; decide) ?_
    refine TL.skip rfl (fun k hk => by cases hk; decide) ?_
    refine TL.skip rfl (fun k hk => by cases hk; decide) ?_
    refine TL.skip rfl (fun k hk => by cases hk; decide) ?_
    refine TL.skip rfl (fun k hk => by cases hk; decide) ?_
    refine TL.pure (PV.pickT rfl rfl) rfl (by decide) ?_
    refine TL.nil ?_
    refine TQ.thenC ?_
    refine TC.condT rfl ?_
    refine TC.seq ?_
    refine TC.region ?_
    refine TL.pure (PV.assign rfl) rfl (by decide) ?_
    refine TL.nil ?_
    refine TQ.thenC ?_
    refine TC.ret ?_
    refine TQ.thenR ?_
    refine TQ.retE1 rfl rfl ?_
    first | exact ⟨(), by rw [show sameB n1 n2 rs1 rs2 = false from decide_eq_false (fun h => heq (by rw [h.2]))], trivial, List.nil_sublist _⟩ | exact ⟨(), by rw [show sameB n1 n2 rs1 rs2 = true from decide_eq_true ⟨by omega, take_all_eq default (by omega) (fun j hj => hk.2 j (by omega))⟩], trivial, List.nil_sublist _⟩ | exact ⟨(), by rw [show sameB n1 n2 rs1 rs2 = false from decide_eq_false (fun h => by have h9 := h.2; subst h9; omega)], trivial, List.nil_sublist _⟩
  · skip
    refine TL.pure (PV.fieldAddr rfl Tb.fo_24_1) rfl (by decide) ?_
    refine TL.pure (PV.load rfl Tb.one_22 (by repeat (first | exact List.Mem.head _ | refine List.Mem.tail _ ?_ | refine List.mem_append_right _ ?_)) rfl) rfl (by decide) ?_
    refine TL.pure (PV.len rfl Tb.sl_22) rfl (by decide) ?_
    refine TL.pure (PV.fieldAddr rfl Tb.fo_24_1) rfl (by decide) ?_
    refine TL.pure (PV.load rfl Tb.one_22 (by repeat (first | exact List.Mem.head _ | refine List.Mem.tail _ ?_ | refine List.mem_append_right _ ?_)) rfl) rfl (by decide) ?_
    refine TL.pure (PV.len rfl Tb.sl_22) rfl (by decide) ?_
    refine TL.pure (PV.neq rfl rfl) rfl (by decide) ?_
    refine TL.pure (PV.pickF rfl rfl) rfl (by decide) ?_
    refine TL.nil ?_
    refine TQ.thenC ?_
    first | refine TC.condD rfl (fun hne => ?_) (fun hne => ?_) | refine TC.cond rfl (fun hne => ?_) (fun hne => ?_)
    · skip
      refine TC.seq ?_
      refine TC.region ?_
      refine TL.pure (PV.assign rfl) rfl (by decide) ?_
      refine TL.nil ?_
      refine TQ.thenC ?_
      refine TC.ret ?_
      refine TQ.thenR ?_
      refine TQ.retE1 rfl rfl ?_
      first | exact ⟨(), by rw [show sameB n1 n2 rs1 rs2 = false from decide_eq_false (fun h => heq (by rw [h.2]))], trivial, List.nil_sublist _⟩ | exact ⟨(), by rw [show sameB n1 n2 rs1 rs2 = true from decide_eq_true ⟨by omega, take_all_eq default (by omega) (fun j hj => hk.2 j (by omega))⟩], trivial, List.nil_sublist _⟩ | exact ⟨(), by rw [show sameB n1 n2 rs1 rs2 = false from decide_eq_false (fun h => by have h9 := h.2; subst h9; omega)], trivial, List.nil_sublist _⟩
    · skip
      refine TC.skip ?_
      refine TQ.thenC ?_
      refine TC.seq ?_
      refine TC.seq ?_
      refine TC.region ?_
      refine TL.pure (PV.assign rfl) rfl (by decide) ?_
      refine TL.nil ?_
      refine TQ.thenC ?_
      refine TC.block ?_
      -- live and written in the loop, not told: [4]
      refine TC.loopG [2, 3] (X := Nat) (fun k => k ≤ rs1.length ∧ ∀ j, j < k → rs1.getD j default = rs2.getD j default) (fun k => [(5, .int .i64 k)]) (fun k => rs1.length - k) 0 ⟨Nat.zero_le _, fun j hj => by omega⟩ (by repeat (first | exact True.intro | refine And.intro rfl ?_)) ?_
      intro k hk
      refine TC.seq ?_
      refine TC.seq ?_
      refine TC.region ?_
      refine TL.pure (PV.move rfl) rfl (by decide) ?_
      refine TL.pure (PV.fieldAddr rfl Tb.fo_24_1) rfl (by decide) ?_
      refine TL.pure (PV.load rfl Tb.one_22 (by repeat (first | exact List.Mem.head _ | refine List.Mem.tail _ ?_ | refine List.mem_append_right _ ?_)) rfl) rfl (by decide) ?_
      refine TL.pure (PV.len rfl Tb.sl_22) rfl (by decide) ?_
      refine TL.pure (PV.lss rfl rfl) rfl (by decide) ?_
      refine TL.nil ?_
      refine TQ.thenC ?_
      first | refine TC.condD rfl (fun hlt => ?_) (fun hlt => ?_) | refine TC.cond rfl (fun hlt => ?_) (fun hlt => ?_)
      · skip
        refine TC.skip ?_
        refine TQ.thenC ?_
        refine TC.seq ?_
        refine TC.block ?_
        refine TC.seq ?_
        obtain ⟨q, hqp, hq⟩ := h1 k (by omega)
        obtain ⟨q2, hq2p, hq2⟩ := h2 k (by omega)
        refine TC.any Tb.mixed rfl rfl ?_
        refine TA.op (OpOK.pure (PV.fieldAddr rfl Tb.fo_24_1) rfl (by decide)) (by decide) ?_
        refine TA.op (OpOK.pure (PV.load rfl Tb.one_22 (by repeat (first | exact List.Mem.head _ | refine List.Mem.tail _ ?_ | refine List.mem_append_right _ ?_)) rfl) rfl (by decide)) (by decide) ?_
        refine TA.op (OpOK.pure (PV.move rfl) rfl (by decide)) (by decide) ?_
        refine TA.op (OpOK.pure (PV.indexA rfl hqp rfl Tb.elm_22 rfl (by omega)) rfl (by decide)) (by decide) ?_
        refine TA.op (OpOK.pure (PV.loadAggA rfl Tb.agg_61 rfl hq) rfl (by decide)) (by decide) ?_
        refine TA.op (OpOK.pure (PV.fieldAddr rfl Tb.fo_24_1) rfl (by decide)) (by decide) ?_
        refine TA.op (OpOK.pure (PV.load rfl Tb.one_22 (by repeat (first | exact List.Mem.head _ | refine List.Mem.tail _ ?_ | refine List.mem_append_right _ ?_)) rfl) rfl (by decide)) (by decide) ?_
        refine TA.op (OpOK.pure (PV.move rfl) rfl (by decide)) (by decide) ?_
        refine TA.op (OpOK.pure (PV.indexA rfl hq2p rfl Tb.elm_22 rfl (by omega)) rfl (by decide)) (by decide) ?_
        refine TA.op (OpOK.pure (PV.loadAggA rfl Tb.agg_61 rfl hq2) rfl (by decide)) (by decide) ?_
        refine TA.op (OpOK.pure (PV.cmp rfl rfl (eq61n_guard _ _ (rs1.getD k default) (rs2.getD k default)) (eq61n (rs1.getD k default) (rs2.getD k default))) rfl (by decide)) (by decide) ?_
        show TQ _ _ _ _ _
        refine TQ.thenC ?_
        first | refine TC.condD rfl (fun heq => ?_) (fun heq => ?_) | refine TC.cond rfl (fun heq => ?_) (fun heq => ?_)
        · skip
          refine TC.seq ?_
          refine TC.region ?_
          refine TL.pure (PV.assign rfl) rfl (by decide) ?_
          refine TL.nil ?_
          refine TQ.thenC ?_
          refine TC.ret ?_
          refine TQ.blkR ?_
          refine TQ.thenR ?_
          refine TQ.thenR ?_
          refine TQ.blkR ?_
          refine TQ.thenR ?_
          refine TQ.retE1 rfl rfl ?_
          first | exact ⟨(), by rw [show sameB n1 n2 rs1 rs2 = false from decide_eq_false (fun h => heq (by rw [h.2]))], trivial, List.nil_sublist _⟩ | exact ⟨(), by rw [show sameB n1 n2 rs1 rs2 = true from decide_eq_true ⟨by omega, take_all_eq default (by omega) (fun j hj => hk.2 j (by omega))⟩], trivial, List.nil_sublist _⟩ | exact ⟨(), by rw [show sameB n1 n2 rs1 rs2 = false from decide_eq_false (fun h => by have h9 := h.2; subst h9; omega)], trivial, List.nil_sublist _⟩
        · skip
          refine TC.skip ?_
          refine TQ.blkN ?_
          refine TQ.thenC ?_
          refine TC.region ?_
          refine TL.pure (PV.move rfl) rfl (by decide) ?_
          refine TL.pure (PV.add rfl rfl (by omega)) rfl (by decide) ?_
          refine TL.pure (PV.assign rfl) rfl (by decide) ?_
          refine TL.nil ?_
          refine TQ.thenN ?_
          refine TQ.backK (k + 1) (by repeat (first | exact True.intro | refine And.intro rfl ?_)) (by repeat (first | exact True.intro | refine And.intro rfl ?_)) (by repeat (first | exact List.Sublist.slnil | exact List.nil_sublist _ | exact List.Sublist.refl _ | refine List.Sublist.cons_cons _ ?_ | refine List.Sublist.cons _ ?_ | refine List.Sublist.trans ?_ (List.sublist_append_right _ _))) ⟨by omega, fun j hj => by by_cases h : j = k; · { rw [h]; exact Decidable.of_not_not heq }; · { exact hk.2 j (by omega) }⟩ (by omega)
      · skip
        refine TC.exit ?_
        refine TQ.thenE ?_
        refine TQ.thenE ?_
        refine TQ.blkS ?_
        refine TQ.thenC ?_
        refine TC.seq ?_
        refine TC.region ?_
        refine TL.pure (PV.assign rfl) rfl (by decide) ?_
        refine TL.nil ?_
        refine TQ.thenC ?_
        refine TC.ret ?_
        refine TQ.retE1 rfl rfl ?_
        first | exact ⟨(), by rw [show sameB n1 n2 rs1 rs2 = false from decide_eq_false (fun h => heq (by rw [h.2]))], trivial, List.nil_sublist _⟩ | exact ⟨(), by rw [show sameB n1 n2 rs1 rs2 = true from decide_eq_true ⟨by omega, take_all_eq default (by omega) (fun j hj => hk.2 j (by omega))⟩], trivial, List.nil_sublist _⟩ | exact ⟨(), by rw [show sameB n1 n2 rs1 rs2 = false from decide_eq_false (fun h => by have h9 := h.2; subst h9; omega)], trivial, List.nil_sublist _⟩

theorem sameS {w : World} {n1 n2 : Int} {h1 h2 : HD} {K1 K2 : Nat} {rs1 rs2 : List Rd} (hK1 : rs1.length = K1) (hK2 : rs2.length = K2) (ho1 : goS h1 rs1) (ho2 : goS h2 rs2) (hr1 : RdsAt w (gp h1) rs1) (hr2 : RdsAt w (gp h2) rs2) (hl : rs1.length ≤ 100000) (hl2 : rs2.length ≤ 100000) :
    Calls Try.prog 53 #[.agg #[.int .i64 n1, gval h1 K1], .agg #[.int .i64 n2, gval h2 K2]] w (Post (X := Unit) (fun _ => .bool (sameB n1 n2 rs1 rs2)) (fun _ => True) (fun _ => []) w) := by
  have hc := Same_ok w n1 n2 (gp h1) (gp h2) (gc h1) (gc h2) rs1 rs2 hr1 hr2 hl hl2
  rw [gvS_eq ho1 hK1, gvS_eq ho2 hK2]; subst hK1; subst hK2
  exact hc
end Go.Proofs.Ytmmgcajegokkoaa

namespace Go.Proofs.Ytmmgcajegokkoaa
open Go.Sx Go.RowKit

def resid (r : Rd) (den : Int) (x : Nat → Int) : Int := r.rise * den - (x r.t - x r.f)
def lvF (n : Int) (rs : List Rd) (k : Nat) : Int := resR rs (denO n.toNat rs) (solN n.toNat rs (bestL n.toNat rs)) k
theorem res_bn {r : Rd} {den : Int} {x y : Int} (h0 : 0 ≤ den) (hr : Bn r.rise 1000) (hx : Bn x (4000 * den)) (hy : Bn y (4000 * den)) : Bn (r.rise * den - (x - y)) (9000 * den) := by
  have h1 := hr.mul (show Bn den den from ⟨by omega, Int.le_refl _⟩)
  unfold Bn at *
  omega
theorem lv_bn {n : Int} {rs : List Rd} (hv : Valid n rs) {k : Nat} (hk : k < rs.length) : Bn (lvF n rs k) (9000 * denO n.toNat rs) := by
  obtain ⟨i1, i2, i3⟩ := rd_in hv hk
  have hd := denO_pos hv.nat.1
  have hat := hv.at hk
  have b1 := best_bn hv.nat.1 i1
  have b2 := best_bn hv.nat.1 i2
  unfold lvF resR
  rw [solZ_get _ _ _ i1, solZ_get _ _ _ i2]
  exact res_bn (by omega) hat.2.2.2.1 (b2.mono (by omega)) (b1.mono (by omega))
def mS (rs : List Rd) (g : Nat → Int) (m : Nat) : Int := sumN m fun k => (rs.getD k default).wt * g k * g k
theorem mS_bn {n : Int} {rs : List Rd} (hv : Valid n rs) {g : Nat → Int} (hg : ∀ k, k < rs.length → Bn (g k) 237654000) : ∀ m, m ≤ rs.length → Bn (mS rs g m) (169438271148000000 * m)
  | 0, _ => by simp [mS, sumN, Bn]
  | m + 1, h => by
    have ih := mS_bn hv hg m (by omega)
    have h1 := hv.at (k := m) (by omega)
    have h2 := hg m (by omega)
    have h3 := ((show Bn (rs.getD m default).wt 3 from ⟨by omega, by omega⟩).mul h2).mul h2
    exact (ih.add h3).mono (by omega)
theorem mS_step {n : Int} {rs : List Rd} (hv : Valid n rs) {g : Nat → Int} (hg : ∀ k, k < rs.length → Bn (g k) 237654000) {m : Nat} (hm : m < rs.length) :
    Bn ((rs.getD m default).wt * g m) 712962000 ∧ Bn ((rs.getD m default).wt * g m * g m) 169438271148000000 ∧ mS rs g (m + 1) = mS rs g m + (rs.getD m default).wt * g m * g m := by
  have h1 := hv.at hm
  have h2 := hg m hm
  have h3 := (show Bn (rs.getD m default).wt 3 from ⟨by omega, by omega⟩).mul h2
  exact ⟨h3.mono (by omega), (h3.mul h2).mono (by omega), rfl⟩
theorem eq46n_guard (x y : Operand) (a b c d : Int) (w : World) : (eqGuard .neq 46 x y (.agg #[.int .i64 a, .int .i64 b]) (.agg #[.int .i64 c, .int .i64 d])).run Try.prog w = .ok () w :=
  run_eqGuard_agg (w := w) .neq 46 x y _ _ (by kernel_rfl)
theorem eq46n (a b c d : Int) (w : World) : (binOp .neq 46 (.agg #[.int .i64 a, .int .i64 b]) (.agg #[.int .i64 c, .int .i64 d])).run Try.prog w = .ok (.bool (decide (¬ (a = c ∧ b = d)))) w := by
  rw [run_neq_struct, show (10000 : Nat) = 9998 + 1 + 1 from rfl, run_equalIn_agg w _ _ _ _ (by kernel_rfl) (by kernel_rfl), eqF2 w _ _ _ _ _ 3 (k := .i64) (by kernel_rfl) (by simp [isAgg, run_underlying (show Try.prog.underlying 3 = some (.int .i64) by kernel_rfl)]) eq46_fs]
  simp
theorem best_in2 (w0 : World) (n : Int) (p : Option Addr) (cap : Nat) (rs : List Rd) (hr : RdsAt w0 p rs) (hv : Valid n rs) :
    Calls Try.prog 74 #[sv n p rs.length cap] w0 (Post (X := Nat) (fun b => .agg #[.int .i64 (denO n.toNat rs), .slice (some ⟨b, 0, none⟩) n.toNat n.toNat]) (fun _ => True) (fun b => [arrI b (solN n.toNat rs (bestL n.toNat rs))]) w0) := by
  have h := best_in w0 n p cap rs hr hv (solved hv.nat.1 (bestL_48 hv.nat.1)).sound
  rw [solD_eq hv.nat.1] at h
  exact h
theorem residL_get {n : Int} {rs : List Rd} {k : Nat} (hk : k < rs.length) : (residL rs (denO n.toNat rs) (solN n.toNat rs (bestL n.toNat rs))).getD k 0 = lvF n rs k := by simp [residL, List.getD, hk, lvF]
theorem resid_bd2 {n : Int} {rs : List Rd} (hv : Valid n rs) : Bd (residL rs (denO n.toNat rs) (solN n.toNat rs (bestL n.toNat rs))) 237654000 := fun j => by
  by_cases hj : j < rs.length
  · rw [residL_get hj]
    have hb := lv_bn hv hj
    have ht := denO_tight hv.nat.1
    exact hb.mono (by omega)
  · have : (residL rs (denO n.toNat rs) (solN n.toNat rs (bestL n.toNat rs))).getD j 0 = 0 := by simp [residL, List.getD, hj]
    rw [this]; omega
def mfA (n : Int) (rs : List Rd) : Int := (mS rs (lvF n rs) rs.length).tdiv (lowG (mS rs (lvF n rs) rs.length) (denO n.toNat rs * denO n.toNat rs))
def mfB (n : Int) (rs : List Rd) : Int := (denO n.toNat rs * denO n.toNat rs).tdiv (lowG (mS rs (lvF n rs) rs.length) (denO n.toNat rs * denO n.toNat rs))
theorem lv_all {n : Int} {rs : List Rd} (hv : Valid n rs) : ∀ k, k < rs.length → Bn (lvF n rs k) 237654000 := fun k hk => (lv_bn hv hk).mono (by have := denO_tight hv.nat.1; omega)
theorem sq_bn {d : Int} (h1 : 1 ≤ d) (h2 : d ≤ 26406) : 0 < d * d ∧ d * d ≤ 697276836 := by
  have e1 := Int.mul_pos (show 0 < d by omega) (show 0 < d by omega)
  have e2 := (show Bn d 26406 from ⟨by omega, h2⟩).mul (show Bn d 26406 from ⟨by omega, h2⟩)
  unfold Bn at e2
  omega
theorem lowestM (w : World) {n : Int} {rs : List Rd} (hv : Valid n rs) :
    Calls Try.prog 79 #[.int .i64 (mS rs (lvF n rs) rs.length), .int .i64 (denO n.toNat rs * denO n.toNat rs)] w (Post (X := Unit) (fun _ => .agg #[.int .i64 (mfA n rs), .int .i64 (mfB n rs)]) (fun _ => True) (fun _ => []) w) := by
  have hd := denO_pos hv.nat.1
  have ht := denO_tight hv.nat.1
  have hq := sq_bn hd.1 ht
  have hl := hv.len
  have hb := (mS_bn hv (lv_all hv) rs.length (Nat.le_refl _)).mono (B := 4000000000000000000) (by omega)
  exact lowest_ok w _ _ hq.1 (by omega) hb


set_option maxRecDepth 100000 in
set_option maxHeartbeats 1000000 in
theorem Misfit_ok (w0 : World) (n : Int) (p : Option Addr) (cap : Nat) (rs : List Rd) (hr : RdsAt w0 p rs) :
    Calls Try.prog 39 #[sv n p rs.length cap] w0 (Post (X := Unit) (fun _ => .tuple #[if validateI n rs = 0 then .agg #[.int .i64 (mfA n rs), .int .i64 (mfB n rs)] else .agg #[.int .i64 0, .int .i64 0], .int .i64 (validateI n rs)]) (fun _ => True) (fun _ => []) w0) := by
  refine calls Try.func39 rfl (n := 46) rfl (by simp) ?_
  refine TC.seq ?_
  refine TC.region ?_
  refine TL.box rfl rfl (by decide) (fun b0 hb0 => ?_)
  refine TL.alloc Tb.zero_46 rfl (by decide) (fun b1 hb1 => ?_)
  refine TL.pure (PV.assign rfl) rfl (by decide) ?_
  refine TL.nil ?_
  refine TQ.thenC ?_
  refine TC.seq ?_
  refine TC.seq ?_
  refine TC.region ?_
  refine TL.pure (PV.loadBox rfl Tb.agg_24 (by repeat (first | exact List.Mem.head _ | refine List.Mem.tail _ ?_ | refine List.mem_append_right _ ?_)) rfl) rfl (by decide) ?_
  refine TL.call rfl Tb.gofn_23 (fun a w hs => validate_ok w _ _ _ _ (hr.new hs.new)) rfl (by decide) (fun _ _ => ?_)
  refine TL.pure (PV.assign rfl) rfl (by decide) ?_
  refine TL.nil ?_
  refine TQ.thenC ?_
  refine TC.seq ?_
  refine TC.region ?_
  refine TL.pure (PV.move rfl) rfl (by decide) ?_
  refine TL.pure (PV.neq rfl rfl) rfl (by decide) ?_
  refine TL.nil ?_
  refine TQ.thenC ?_
  first | refine TC.condD rfl (fun hne => ?_) (fun hne => ?_) | refine TC.cond rfl (fun hne => ?_) (fun hne => ?_)
  · skip
    refine TC.seq ?_
    refine TC.region ?_
    refine TL.pure (PV.build rfl Tb.zero_46 Tb.pl_46 rfl) rfl (by decide) ?_
    refine TL.pure (PV.move rfl) rfl (by decide) ?_
    refine TL.storeAgg rfl rfl Tb.cells_46 (by repeat (first | exact Upd.head _ | apply Upd.tail | apply Upd.appR)) rfl rfl rfl rfl rfl ?_
    refine TL.pure (PV.assign rfl) rfl (by decide) ?_
    refine TL.nil ?_
    refine TQ.thenC ?_
    refine TC.ret ?_
    refine TQ.thenR ?_
    refine TQ.retR rfl (Res.agg rfl Tb.agg_46 (by repeat (first | exact List.Mem.head _ | refine List.Mem.tail _ ?_ | refine List.mem_append_right _ ?_)) rfl (Res.tmp rfl Res.nil)) ?_
    simp only [tup]
    exact ⟨(), by rw [if_neg hne], trivial, List.nil_sublist _⟩
  · skip
    refine TC.skip ?_
    refine TQ.thenC ?_
    refine TC.seq ?_
    have hv : Valid n rs := vof hne
    have hp := hv.pts
    have hll := hv.len
    have hd := denO_pos hv.nat.1
    have hdt := denO_tight hv.nat.1
    have hnb := (solved hv.nat.1 (bestL_48 hv.nat.1)).sound.num
    have hsq := sq_bn hd.1 hdt
    have hlv := lv_all hv
    have hrl := residL_len rs (denO n.toNat rs) (solN n.toNat rs (bestL n.toNat rs))
    refine TC.region ?_
    refine TL.pure (PV.loadBox rfl Tb.agg_24 (by repeat (first | exact List.Mem.head _ | refine List.Mem.tail _ ?_ | refine List.mem_append_right _ ?_)) rfl) rfl (by decide) ?_
    refine TL.call rfl Tb.gofn_74 (fun a w hs => best_in2 w _ _ _ _ (hr.new hs.new) hv) rfl (by decide) (fun bH _ => ?_)
    refine TL.alloc Tb.zero_51 rfl (by decide) (fun b2 hb2 => ?_)
    refine TL.storeAgg rfl rfl Tb.cells_51 (by repeat (first | exact Upd.head _ | apply Upd.tail | apply Upd.appR)) rfl rfl rfl rfl rfl ?_
    refine TL.nil ?_
    refine TQ.thenC ?_
    refine TC.seq ?_
    refine TC.region ?_
    refine TL.pure (PV.assign rfl) rfl (by decide) ?_
    refine TL.nil ?_
    refine TQ.thenC ?_
    refine TC.seq ?_
    refine TC.seq ?_
    refine TC.region ?_
    refine TL.pure (PV.loadBox rfl Tb.agg_24 (by repeat (first | exact List.Mem.head _ | refine List.Mem.tail _ ?_ | refine List.mem_append_right _ ?_)) rfl) rfl (by decide) ?_
    refine TL.pure (PV.loadBox rfl Tb.agg_51 (by repeat (first | exact List.Mem.head _ | refine List.Mem.tail _ ?_ | refine List.mem_append_right _ ?_)) rfl) rfl (by decide) ?_
    refine TL.call rfl Tb.gofn_77 (fun a w hs => residuals_ok w _ _ _ _ (hr.new hs.new) hv (denO n.toNat rs) (some ⟨bH, 0, none⟩) n.toNat (solN n.toNat rs (bestL n.toNat rs)) (IntsAt.arr hs.new (by repeat (first | exact List.Mem.head _ | refine List.Mem.tail _ ?_ | refine List.mem_append_right _ ?_))) (solN_len _ _ _) (by omega) hnb) rfl (by decide) (fun bR _ => ?_)
    refine TL.pure (PV.len rfl Tb.sl_31) rfl (by decide) ?_
    refine TL.pure (PV.move rfl) rfl (by decide) ?_
    refine TL.nil ?_
    refine TQ.thenC ?_
    refine TC.block ?_
    refine TC.lit [(1, _), (2, _), (3, _), (5, _), (6, _), (19, _), (20, _), (21, _)] (by repeat (first | exact True.intro | refine And.intro rfl ?_)) ?_
    refine TC.loopG [1, 2, 3, 5, 19, 20] (X := Nat) (fun k => k ≤ rs.length) (fun k => [(21, .int .i64 k), (6, .int .i64 (mS rs (lvF n rs) k))]) (fun k => rs.length - k) 0 (Nat.zero_le _) (by repeat (first | exact True.intro | refine And.intro rfl ?_)) ?_
    intro k hk
    refine TC.seq ?_
    refine TC.region ?_
    refine TL.pure (PV.lss rfl rfl) rfl (by decide) ?_
    refine TL.nil ?_
    refine TQ.thenC ?_
    refine TC.seq ?_
    first | refine TC.condD rfl (fun hlt => ?_) (fun hlt => ?_) | refine TC.cond rfl (fun hlt => ?_) (fun hlt => ?_)
    · skip
      refine TC.skip ?_
      refine TQ.thenC ?_
      refine TC.seq ?_
      refine TC.block ?_
      refine TC.seq ?_
      refine TC.lit [(1, _), (2, _), (3, _), (5, _), (6, _), (19, _), (20, _), (21, _)] (by repeat (first | exact True.intro | refine And.intro rfl ?_)) ?_
      have hkl : k < rs.length := by omega
      obtain ⟨q, hqp, hq⟩ := hr k hkl
      have hq3 := hq 3 _ rfl
      have hg := residL_get (n := n) hkl
      have hb := mS_bn hv hlv k (by omega)
      have hst := mS_step hv hlv hkl
      unfold Bn at hb hst
      rw [← hg] at hst
      refine TC.region ?_
      refine TL.pure (PV.move rfl) rfl (by decide) ?_
      refine TL.pure (PV.index1 rfl rfl Tb.elm_31 rfl (by omega)) rfl (by decide) ?_
      refine TL.pure (PV.loadI rfl Tb.one_3 (by repeat (first | exact List.Mem.head _ | refine List.Mem.tail _ ?_ | refine List.mem_append_right _ ?_)) (by omega)) rfl (by decide) ?_
      refine TL.pure (PV.assign rfl) rfl (by decide) ?_
      refine TL.pure (PV.assign rfl) rfl (by decide) ?_
      refine TL.nil ?_
      refine TQ.thenC ?_
      refine TC.region ?_
      refine TL.pure (PV.move rfl) rfl (by decide) ?_
      refine TL.pure (PV.fieldAddr rfl Tb.fo_24_1) rfl (by decide) ?_
      refine TL.pure (PV.load rfl Tb.one_22 (by repeat (first | exact List.Mem.head _ | refine List.Mem.tail _ ?_ | refine List.mem_append_right _ ?_)) rfl) rfl (by decide) ?_
      refine TL.pure (PV.move rfl) rfl (by decide) ?_
      refine TL.pure (PV.indexA rfl hqp rfl Tb.elm_22 rfl (by omega)) rfl (by decide) ?_
      refine TL.pure (PV.fieldAddrA rfl Tb.fo_61_3) rfl (by decide) ?_
      refine TL.pure (PV.loadOld rfl Tb.one_3 hq3) rfl (by decide) ?_
      refine TL.pure (PV.move rfl) rfl (by decide) ?_
      refine TL.pure (PV.mul rfl rfl (by omega)) rfl (by decide) ?_
      refine TL.pure (PV.move rfl) rfl (by decide) ?_
      refine TL.pure (PV.mul rfl rfl (by omega)) rfl (by decide) ?_
      refine TL.pure (PV.add rfl rfl (by omega)) rfl (by decide) ?_
      refine TL.pure (PV.assign rfl) rfl (by decide) ?_
      refine TL.nil ?_
      refine TQ.blkN ?_
      refine TQ.thenC ?_
      refine TC.region ?_
      refine TL.pure (PV.add rfl rfl (by omega)) rfl (by decide) ?_
      refine TL.pure (PV.move rfl) rfl (by decide) ?_
      refine TL.nil ?_
      refine TQ.thenN ?_
      refine TQ.backK (k + 1) ⟨rfl, by rw [hst.2.2, hg]; rfl, trivial⟩ (by repeat (first | exact True.intro | refine And.intro rfl ?_)) (by repeat (first | exact List.Sublist.slnil | exact List.nil_sublist _ | exact List.Sublist.refl _ | refine List.Sublist.cons_cons _ ?_ | refine List.Sublist.cons _ ?_ | refine List.Sublist.trans ?_ (List.sublist_append_right _ _))) (by omega) (by omega)
    · skip
      refine TC.exit ?_
      refine TQ.thenE ?_
      refine TQ.thenE ?_
      refine TQ.blkS ?_
      refine TQ.thenC ?_
      refine TC.seq ?_
      refine TC.lit [(2, _), (5, _), (6, _)] (by repeat (first | exact True.intro | refine And.intro rfl ?_)) ?_
      have hkk : k = rs.length := by omega
      subst hkk
      refine TC.region ?_
      refine TL.pure (PV.move rfl) rfl (by decide) ?_
      refine TL.pure (PV.fieldAddr rfl Tb.fo_51_0) rfl (by decide) ?_
      refine TL.pure (PV.load rfl Tb.one_3 (by repeat (first | exact List.Mem.head _ | refine List.Mem.tail _ ?_ | refine List.mem_append_right _ ?_)) rfl) rfl (by decide) ?_
      refine TL.pure (PV.fieldAddr rfl Tb.fo_51_0) rfl (by decide) ?_
      refine TL.pure (PV.load rfl Tb.one_3 (by repeat (first | exact List.Mem.head _ | refine List.Mem.tail _ ?_ | refine List.mem_append_right _ ?_)) rfl) rfl (by decide) ?_
      refine TL.pure (PV.mul rfl rfl (by omega)) rfl (by decide) ?_
      refine TL.call rfl Tb.gofn_79 (fun a w hs => lowestM w hv) rfl (by decide) (fun _ _ => ?_)
      refine TL.storeAgg rfl rfl Tb.cells_46 (by repeat (first | exact Upd.head _ | apply Upd.tail | apply Upd.appR)) rfl rfl rfl rfl rfl ?_
      refine TL.pure (PV.assign rfl) rfl (by decide) ?_
      refine TL.nil ?_
      refine TQ.thenC ?_
      refine TC.ret ?_
      refine TQ.retR rfl (Res.agg rfl Tb.agg_46 (by repeat (first | exact List.Mem.head _ | refine List.Mem.tail _ ?_ | refine List.mem_append_right _ ?_)) rfl (Res.tmp rfl Res.nil)) ?_
      simp only [tup]
      exact ⟨(), by rw [if_pos (show validateI n rs = 0 from hv), show validateI n rs = 0 from hv], trivial, List.nil_sublist _⟩

def mfV (n : Int) (rs : List Rd) (a : Int) : Int := if validateI n rs = 0 then a else 0
theorem mfV_eq (n : Int) (rs : List Rd) : (if validateI n rs = 0 then Value.agg #[.int .i64 (mfA n rs), .int .i64 (mfB n rs)] else Value.agg #[.int .i64 0, .int .i64 0]) = Value.agg #[.int .i64 (mfV n rs (mfA n rs)), .int .i64 (mfV n rs (mfB n rs))] := by
  unfold mfV; split <;> rfl
theorem Misfit_v (w0 : World) (n : Int) (p : Option Addr) (cap : Nat) (rs : List Rd) (hr : RdsAt w0 p rs) :
    Calls Try.prog 39 #[sv n p rs.length cap] w0 (Post (X := Unit) (fun _ => .tuple #[.agg #[.int .i64 (mfV n rs (mfA n rs)), .int .i64 (mfV n rs (mfB n rs))], .int .i64 (validateI n rs)]) (fun _ => True) (fun _ => []) w0) := by
  have h := Misfit_ok w0 n p cap rs hr
  rw [mfV_eq] at h
  exact h
end Go.Proofs.Ytmmgcajegokkoaa

namespace Go.Proofs.Ytmmgcajegokkoaa
open Go.Sx Go.RowKit

theorem rsum_snoc (g : Rd → Int) (r : Rd) : ∀ rs : List Rd, rsum (rs ++ [r]) g = rsum rs g + g r
  | [] => by simp [rsum]
  | a :: rs => by rw [List.cons_append]; show g a + rsum (rs ++ [r]) g = (g a + rsum rs g) + g r; rw [rsum_snoc g r rs]; omega
theorem en_snoc (rs : List Rd) (r : Rd) (x y : Nat → Int) : en (rs ++ [r]) x y = en rs x y + r.wt * (dlt x r * dlt y r) := rsum_snoc _ r rs
theorem en_sq (a b : Int) (x y : Nat → Int) : ∀ rs : List Rd, en rs (fun p => a * x p - b * y p) (fun p => a * x p - b * y p) = a * a * en rs x x - 2 * (a * b * en rs x y) + b * b * en rs y y
  | [] => by simp [en, rsum]
  | r :: rs => by
    have ih := en_sq a b x y rs
    unfold en at ih ⊢
    show r.wt * (dlt _ r * dlt _ r) + rsum rs _ = a * a * (r.wt * (dlt x r * dlt x r) + rsum rs _) - 2 * (a * b * (r.wt * (dlt x r * dlt y r) + rsum rs _)) + b * b * (r.wt * (dlt y r * dlt y r) + rsum rs _)
    rw [ih]
    unfold dlt
    grind
theorem same_more {N : Nat} {rs : List Rd} {r : Rd} (hv : Valid (N : Int) rs) (hv' : Valid (N : Int) (rs ++ [r])) {i j : Nat} (hi : i < N) (hj : j < N) (h : rootOf N rs i = rootOf N rs j) : rootOf N (rs ++ [r]) i = rootOf N (rs ++ [r]) j := by
  have hx : ∀ q ∈ rs, ((rootOf N (rs ++ [r]) q.f : Nat) : Int) = ((rootOf N (rs ++ [r]) q.t : Nat) : Int) := fun q hq => by rw [root_ends hv' (List.mem_append_left _ hq)]
  have e1 := const_of hv (x := fun p => ((rootOf N (rs ++ [r]) p : Nat) : Int)) hx hi
  have e2 := const_of hv (x := fun p => ((rootOf N (rs ++ [r]) p : Nat) : Int)) hx hj
  rw [h] at e1
  omega
theorem RR_more {N : Nat} {rs : List Rd} {r : Rd} (hv : Valid (N : Int) rs) (hv' : Valid (N : Int) (rs ++ [r])) {i j : Nat} (hi : i < N) (hj : j < N) (h : rootOf N rs i = rootOf N rs j) :
    denO N rs * RR N (rs ++ [r]) i j ≤ denO N (rs ++ [r]) * RR N rs i j := by
  have h' := same_more hv hv' hi hj h
  have d := denO_pos hv
  have d' := denO_pos hv'
  have e1 := en_uu hv hi hj h (uu N rs i j)
  have e2 := en_uu hv hi hj h (uu N (rs ++ [r]) i j)
  have e3 := RR_en hv' hi hj h'
  rw [en_snoc] at e3
  have hw := hv'.wt r (List.mem_append_right _ (List.mem_singleton.2 rfl))
  have hs := Int.mul_nonneg (show 0 ≤ r.wt by omega) (sq_nonneg (dlt (uu N (rs ++ [r]) i j) r))
  have hn := en_nonneg hv.wt (fun p => denO N (rs ++ [r]) * uu N rs i j p - denO N rs * uu N (rs ++ [r]) i j p)
  rw [en_sq, e1, e2] at hn
  have k1 : uu N rs i j j - uu N rs i j i = RR N rs i j := rfl
  have k2 : uu N (rs ++ [r]) i j j - uu N (rs ++ [r]) i j i = RR N (rs ++ [r]) i j := rfl
  rw [k1, k2] at hn
  have h4 : denO N rs * denO N rs * en rs (uu N (rs ++ [r]) i j) (uu N (rs ++ [r]) i j) ≤ denO N rs * denO N rs * (denO N (rs ++ [r]) * RR N (rs ++ [r]) i j) :=
    Int.mul_le_mul_of_nonneg_left (by omega) (Int.mul_nonneg (by omega) (by omega))
  generalize denO N rs = D at *
  generalize denO N (rs ++ [r]) = D' at *
  generalize RR N rs i j = R at *
  generalize RR N (rs ++ [r]) i j = R' at *
  have h5 : 0 ≤ (D * D') * (D' * R - D * R') := by
    have : (D * D') * (D' * R - D * R') = D' * D' * (D * R) - 2 * (D' * D * (D * R')) + D * D * (D' * R') := by grind
    omega
  have hp : 0 < D * D' := Int.mul_pos (by omega) (by omega)
  rcases Int.lt_or_le (D' * R) (D * R') with hh | hh
  · have := Int.mul_neg_of_pos_of_neg hp (show D' * R - D * R' < 0 by omega)
    omega
  · exact hh
theorem errE_more {n : Int} {rs : List Rd} {r : Rd} {i j : Int} (hw : withE n rs r = 0) (h : errE n rs i j = 0) : errE n (rs ++ [r]) i j = 0 := by
  have ho := errE_ok h
  have hp := ho.valid.pts
  have hn : ((n.toNat : Nat) : Int) = n := by have := ho.pos; omega
  have h1 : validateI n rs = 0 := by have := ho.valid; rw [hn] at this; exact this
  have h2 : validateI n (rs ++ [r]) = 0 := by rw [withE, if_neg (by omega)] at hw; exact hw
  have hv' : Valid (n.toNat : Int) (rs ++ [r]) := by rw [hn]; exact h2
  have hs := same_more ho.valid hv' ho.iN ho.jN ho.same
  have e1 := root_le hv' ho.iN
  have e2 := root_le hv' ho.jN
  have h0 := ho.i0
  have h3 := ho.j0
  have h4 := ho.iN
  have h5 := ho.jN
  unfold errE
  rw [if_neg (not_not_intro h2), if_neg (not_not_intro ⟨⟨h0, by omega⟩, h3, by omega⟩), if_neg (not_not_intro ?_)]
  rw [hn] at e1 e2
  have g1 := e1.2
  have g2 := e2.2
  rw [← g1, ← g2, hs]
theorem err_more {n : Int} {rs : List Rd} {r : Rd} {i j : Int} (hw : withE n rs r = 0) (h : errE n rs i j = 0) :
    errN n (rs ++ [r]) i j * errD n rs i j ≤ errN n rs i j * errD n (rs ++ [r]) i j := by
  have ho := errE_ok h
  have h' := errE_more hw h
  have ho' := errE_ok h'
  obtain ⟨ga, a⟩ := errIs h
  obtain ⟨gb, b⟩ := errIs h'
  have ht := RR_more ho.valid ho'.valid ho.iN ho.jN ho.same
  rw [← a.num, ← b.num, ← a.den, ← b.den] at ht
  have key : (errN n (rs ++ [r]) i j * errD n rs i j) * (ga * gb) ≤ (errN n rs i j * errD n (rs ++ [r]) i j) * (ga * gb) := by
    have e1 : (errN n (rs ++ [r]) i j * errD n rs i j) * (ga * gb) = errD n rs i j * ga * (errN n (rs ++ [r]) i j * gb) := by grind
    have e2 : (errN n rs i j * errD n (rs ++ [r]) i j) * (ga * gb) = errD n (rs ++ [r]) i j * gb * (errN n rs i j * ga) := by grind
    rw [e1, e2]; exact ht
  exact Int.le_of_mul_le_mul_right key (Int.mul_pos a.pos b.pos)

end Go.Proofs.Ytmmgcajegokkoaa

namespace Go.Proofs.Ytmmgcajegokkoaa
open Go.Sx Go.RowKit



set_option maxRecDepth 100000 in
set_option maxHeartbeats 1000000 in
theorem levelMore_ok (w0 : World) (n : Int) (p : Option Addr) (cap : Nat) (rs : List Rd) (hr : RdsAt w0 p rs) (r : Rd) (i j k : Int) :
    Calls Try.prog 12 #[sv n p rs.length cap, r.val, .agg #[.int .i64 i, .int .i64 j, .int .i64 k]] w0 (Post (X := Unit) (fun _ => .bool true) (fun _ => True) (fun _ => []) w0) := by
  refine calls Try.func12 rfl (n := 92) rfl (by simp) ?_
  refine TC.seq ?_
  refine TC.region ?_
  refine TL.box rfl rfl (by decide) (fun b0 hb0 => ?_)
  refine TL.box rfl rfl (by decide) (fun b1 hb1 => ?_)
  refine TL.box rfl rfl (by decide) (fun b2 hb2 => ?_)
  refine TL.pure (PV.assign rfl) rfl (by decide) ?_
  refine TL.nil ?_
  refine TQ.thenC ?_
  refine TC.seq ?_
  refine TC.seq ?_
  refine TC.region ?_
  refine TL.pure (PV.loadBox rfl Tb.agg_24 (by repeat (first | exact List.Mem.head _ | refine List.Mem.tail _ ?_ | refine List.mem_append_right _ ?_)) rfl) rfl (by decide) ?_
  refine TL.call rfl Tb.gofn_17 (fun a w hs => long_ok w _ _ _ _) rfl (by decide) (fun _ _ => ?_)
  refine TL.nil ?_
  refine TQ.thenC ?_
  first | refine TC.condD rfl (fun hlong => ?_) (fun hlong => ?_) | refine TC.cond rfl (fun hlong => ?_) (fun hlong => ?_)
  · skip
    refine TC.seq ?_
    refine TC.region ?_
    refine TL.call rfl Tb.gofn_18 (fun a w hs => known_ok w) rfl (by decide) (fun _ _ => ?_)
    refine TL.pure (PV.assign rfl) rfl (by decide) ?_
    refine TL.nil ?_
    refine TQ.thenC ?_
    refine TC.ret ?_
    refine TQ.thenR ?_
    refine TQ.retE1 rfl rfl ?_
    first | exact ⟨(), rfl, trivial, List.nil_sublist _⟩ | (exfalso; omega) | (exfalso; refine ?_; exact absurd (show sameB x.1 y.1 x.2.2 y.2.2 = true from decide_eq_true ⟨hx.num.trans hy.num.symm, hx.eq.trans hy.eq.symm⟩) (by assumption)) | (exfalso; simp [sameB] at hs1; exact hs1 (hx.num.trans hy.num.symm) (hx.eq.trans hy.eq.symm)) | (exfalso; simp_all; done)
  · skip
    refine TC.skip ?_
    refine TQ.thenC ?_
    refine TC.seq ?_
    refine TC.region ?_
    refine TL.pure (PV.loadBox rfl Tb.agg_24 (by repeat (first | exact List.Mem.head _ | refine List.Mem.tail _ ?_ | refine List.mem_append_right _ ?_)) rfl) rfl (by decide) ?_
    refine TL.pure (PV.loadBox rfl Tb.agg_61 (by repeat (first | exact List.Mem.head _ | refine List.Mem.tail _ ?_ | refine List.mem_append_right _ ?_)) rfl) rfl (by decide) ?_
    refine TL.call rfl Tb.gofn_51 (fun a w hs => With_ok w n p cap rs (hr.new hs.new) (by omega) r) rfl (by decide) (fun x hx => ?_)
    refine TL.pure (PV.move rfl) rfl (by decide) ?_
    refine TL.pure (PV.extract rfl rfl) rfl (by decide) ?_
    refine TL.pure (PV.extract rfl rfl) rfl (by decide) ?_
    refine TL.alloc Tb.zero_24 rfl (by decide) (fun b3 hb3 => ?_)
    refine TL.storeAgg rfl rfl Tb.cells_24 (by repeat (first | exact Upd.head _ | apply Upd.tail | apply Upd.appR)) rfl rfl (by first | rfl | exact sv_one _ _ _) rfl rfl ?_
    refine TL.pure (PV.assign rfl) rfl (by decide) ?_
    refine TL.nil ?_
    refine TQ.thenC ?_
    refine TC.seq ?_
    refine TC.region ?_
    refine TL.pure (PV.loadBox rfl Tb.agg_24 (by repeat (first | exact List.Mem.head _ | refine List.Mem.tail _ ?_ | refine List.mem_append_right _ ?_)) rfl) rfl (by decide) ?_
    refine TL.pure (PV.loadBox rfl Tb.agg_61 (by repeat (first | exact List.Mem.head _ | refine List.Mem.tail _ ?_ | refine List.mem_append_right _ ?_)) rfl) rfl (by decide) ?_
    refine TL.call rfl Tb.gofn_52 (fun a w hs => rWith_ok w n p cap rs (hr.new hs.new) (by omega) r) rfl (by decide) (fun y hy => ?_)
    refine TL.pure (PV.move rfl) rfl (by decide) ?_
    refine TL.pure (PV.extract rfl rfl) rfl (by decide) ?_
    refine TL.pure (PV.extract rfl rfl) rfl (by decide) ?_
    refine TL.alloc Tb.zero_24 rfl (by decide) (fun b4 hb4 => ?_)
    refine TL.storeAgg rfl rfl Tb.cells_24 (by repeat (first | exact Upd.head _ | apply Upd.tail | apply Upd.appR)) rfl rfl (by first | rfl | exact sv_one _ _ _) rfl rfl ?_
    refine TL.pure (PV.assign rfl) rfl (by decide) ?_
    refine TL.nil ?_
    refine TQ.thenC ?_
    refine TC.seq ?_
    refine TC.seq ?_
    refine TC.region ?_
    refine TL.pure (PV.move rfl) rfl (by decide) ?_
    refine TL.pure (PV.move rfl) rfl (by decide) ?_
    refine TL.pure (PV.neq rfl rfl) rfl (by decide) ?_
    refine TL.pure (PV.move rfl) rfl (by decide) ?_
    first | refine TL.splitD 33 rfl (fun g0 => ?_) (fun g0 => ?_) | refine TL.split 33 rfl (fun g0 => ?_) (fun g0 => ?_)
    · skip
      refine TL.skip rfl (fun k hk => by cases hk; decide) ?_
      refine TL.skip rfl (fun k hk => by cases hk; decide) ?_
      refine TL.skip rfl (fun k hk => by cases hk; decide) ?_
      refine TL.skip rfl (fun k hk => by cases hk; decide) ?_
      refine TL.pure (PV.pickT rfl rfl) rfl (by decide) ?_
      refine TL.nil ?_
      refine TQ.thenC ?_
      refine TC.condT rfl ?_
      refine TC.seq ?_
      refine TC.region ?_
      refine TL.pure (PV.assign rfl) rfl (by decide) ?_
      refine TL.nil ?_
      refine TQ.thenC ?_
      refine TC.ret ?_
      refine TQ.thenR ?_
      refine TQ.retE1 rfl rfl ?_
      first | exact ⟨(), rfl, trivial, List.nil_sublist _⟩ | (exfalso; omega) | (exfalso; refine ?_; exact absurd (show sameB x.1 y.1 x.2.2 y.2.2 = true from decide_eq_true ⟨hx.num.trans hy.num.symm, hx.eq.trans hy.eq.symm⟩) (by assumption)) | (exfalso; simp [sameB] at hs1; exact hs1 (hx.num.trans hy.num.symm) (hx.eq.trans hy.eq.symm)) | (exfalso; simp_all; done)
    · skip
      refine TL.pure (PV.loadBox rfl Tb.agg_24 (by repeat (first | exact List.Mem.head _ | refine List.Mem.tail _ ?_ | refine List.mem_append_right _ ?_)) rfl) rfl (by decide) ?_
      refine TL.pure (PV.loadBox rfl Tb.agg_24 (by repeat (first | exact List.Mem.head _ | refine List.Mem.tail _ ?_ | refine List.mem_append_right _ ?_)) rfl) rfl (by decide) ?_
      refine TL.call rfl Tb.gofn_53 (fun a w hs => sameS rfl rfl hx.ok hy.ok (RdsAt.s hs.new (fun yy hyy => by first | exact List.mem_append_left _ hyy | (simp only [List.mem_append, List.mem_cons]; simp [hyy])) hx.ok) (RdsAt.s hs.new (fun yy hyy => by first | exact List.mem_append_left _ hyy | (simp only [List.mem_append, List.mem_cons]; simp [hyy])) hy.ok) (by rw [hx.eq]; split <;> simp <;> omega) (by rw [hy.eq]; split <;> simp <;> omega)) rfl (by decide) (fun _ _ => ?_)
      refine TL.pure ((by first | exact PV.notD rfl | exact PV.not rfl)) rfl (by decide) ?_
      refine TL.pure (PV.pickF rfl rfl) rfl (by decide) ?_
      refine TL.nil ?_
      refine TQ.thenC ?_
      first | refine TC.condD rfl (fun hs1 => ?_) (fun hs1 => ?_) | refine TC.cond rfl (fun hs1 => ?_) (fun hs1 => ?_)
      · skip
        refine TC.seq ?_
        refine TC.region ?_
        refine TL.pure (PV.assign rfl) rfl (by decide) ?_
        refine TL.nil ?_
        refine TQ.thenC ?_
        refine TC.ret ?_
        refine TQ.thenR ?_
        refine TQ.retE1 rfl rfl ?_
        first | exact ⟨(), rfl, trivial, List.nil_sublist _⟩ | (exfalso; omega) | (exfalso; refine ?_; exact absurd (show sameB x.1 y.1 x.2.2 y.2.2 = true from decide_eq_true ⟨hx.num.trans hy.num.symm, hx.eq.trans hy.eq.symm⟩) (by assumption)) | (exfalso; simp [sameB] at hs1; exact hs1 (hx.num.trans hy.num.symm) (hx.eq.trans hy.eq.symm)) | (exfalso; simp_all; done)
      · skip
        refine TC.skip ?_
        refine TQ.thenC ?_
        refine TC.seq ?_
        refine TC.region ?_
        refine TL.pure (PV.loadBox rfl Tb.agg_24 (by repeat (first | exact List.Mem.head _ | refine List.Mem.tail _ ?_ | refine List.mem_append_right _ ?_)) rfl) rfl (by decide) ?_
        refine TL.pure (PV.fieldAddr rfl Tb.fo_63_0) rfl (by decide) ?_
        refine TL.pure (PV.load rfl Tb.one_3 (by repeat (first | exact List.Mem.head _ | refine List.Mem.tail _ ?_ | refine List.mem_append_right _ ?_)) rfl) rfl (by decide) ?_
        refine TL.pure (PV.fieldAddr rfl Tb.fo_63_1) rfl (by decide) ?_
        refine TL.pure (PV.load rfl Tb.one_3 (by repeat (first | exact List.Mem.head _ | refine List.Mem.tail _ ?_ | refine List.mem_append_right _ ?_)) rfl) rfl (by decide) ?_
        refine TL.call rfl Tb.gofn_44 (fun a w hs => error_any w _ _ _ _ (hr.new hs.new) _ _) rfl (by decide) (fun _ _ => ?_)
        refine TL.pure (PV.move rfl) rfl (by decide) ?_
        refine TL.pure (PV.extract rfl rfl) rfl (by decide) ?_
        refine TL.pure (PV.extract rfl rfl) rfl (by decide) ?_
        refine TL.alloc Tb.zero_46 rfl (by decide) (fun b5 hb5 => ?_)
        refine TL.storeAgg rfl rfl Tb.cells_46 (by repeat (first | exact Upd.head _ | apply Upd.tail | apply Upd.appR)) rfl rfl rfl rfl rfl ?_
        refine TL.pure (PV.assign rfl) rfl (by decide) ?_
        refine TL.nil ?_
        refine TQ.thenC ?_
        refine TC.seq ?_
        refine TC.region ?_
        refine TL.pure (PV.loadBox rfl Tb.agg_24 (by repeat (first | exact List.Mem.head _ | refine List.Mem.tail _ ?_ | refine List.mem_append_right _ ?_)) rfl) rfl (by decide) ?_
        refine TL.pure (PV.fieldAddr rfl Tb.fo_63_0) rfl (by decide) ?_
        refine TL.pure (PV.load rfl Tb.one_3 (by repeat (first | exact List.Mem.head _ | refine List.Mem.tail _ ?_ | refine List.mem_append_right _ ?_)) rfl) rfl (by decide) ?_
        refine TL.pure (PV.fieldAddr rfl Tb.fo_63_1) rfl (by decide) ?_
        refine TL.pure (PV.load rfl Tb.one_3 (by repeat (first | exact List.Mem.head _ | refine List.Mem.tail _ ?_ | refine List.mem_append_right _ ?_)) rfl) rfl (by decide) ?_
        refine TL.call rfl Tb.gofn_44 (fun a w hs => errorS w x.1 x.2.1 _ x.2.2 rfl hx.ok (RdsAt.s hs.new (fun yy hyy => by first | exact List.mem_append_left _ hyy | (simp only [List.mem_append, List.mem_cons]; simp [hyy])) hx.ok) _ _) rfl (by decide) (fun _ _ => ?_)
        refine TL.pure (PV.move rfl) rfl (by decide) ?_
        refine TL.pure (PV.extract rfl rfl) rfl (by decide) ?_
        refine TL.pure (PV.extract rfl rfl) rfl (by decide) ?_
        refine TL.alloc Tb.zero_46 rfl (by decide) (fun b6 hb6 => ?_)
        refine TL.storeAgg rfl rfl Tb.cells_46 (by repeat (first | exact Upd.head _ | apply Upd.tail | apply Upd.appR)) rfl rfl rfl rfl rfl ?_
        refine TL.pure (PV.assign rfl) rfl (by decide) ?_
        refine TL.nil ?_
        refine TQ.thenC ?_
        refine TC.seq ?_
        refine TC.seq ?_
        refine TC.region ?_
        refine TL.pure (PV.move rfl) rfl (by decide) ?_
        refine TL.pure (PV.neq rfl rfl) rfl (by decide) ?_
        refine TL.pure (PV.move rfl) rfl (by decide) ?_
        first | refine TL.splitD 59 rfl (fun g1 => ?_) (fun g1 => ?_) | refine TL.split 59 rfl (fun g1 => ?_) (fun g1 => ?_)
        · skip
          refine TL.skip rfl (fun k hk => by cases hk; decide) ?_
          refine TL.skip rfl (fun k hk => by cases hk; decide) ?_
          refine TL.pure (PV.pickT rfl rfl) rfl (by decide) ?_
          refine TL.nil ?_
          refine TQ.thenC ?_
          refine TC.condT rfl ?_
          refine TC.seq ?_
          refine TC.region ?_
          refine TL.call rfl Tb.gofn_18 (fun a w hs => known_ok w) rfl (by decide) (fun _ _ => ?_)
          refine TL.pure (PV.assign rfl) rfl (by decide) ?_
          refine TL.nil ?_
          refine TQ.thenC ?_
          refine TC.ret ?_
          refine TQ.thenR ?_
          refine TQ.retE1 rfl rfl ?_
          first | exact ⟨(), rfl, trivial, List.nil_sublist _⟩ | (exfalso; omega) | (exfalso; refine ?_; exact absurd (show sameB x.1 y.1 x.2.2 y.2.2 = true from decide_eq_true ⟨hx.num.trans hy.num.symm, hx.eq.trans hy.eq.symm⟩) (by assumption)) | (exfalso; simp [sameB] at hs1; exact hs1 (hx.num.trans hy.num.symm) (hx.eq.trans hy.eq.symm)) | (exfalso; simp_all; done)
        · skip
          refine TL.pure (PV.move rfl) rfl (by decide) ?_
          refine TL.pure (PV.neq rfl rfl) rfl (by decide) ?_
          refine TL.pure (PV.pickF rfl rfl) rfl (by decide) ?_
          refine TL.nil ?_
          refine TQ.thenC ?_
          first | refine TC.condD rfl (fun hbad => ?_) (fun hbad => ?_) | refine TC.cond rfl (fun hbad => ?_) (fun hbad => ?_)
          · skip
            refine TC.seq ?_
            refine TC.region ?_
            refine TL.call rfl Tb.gofn_18 (fun a w hs => known_ok w) rfl (by decide) (fun _ _ => ?_)
            refine TL.pure (PV.assign rfl) rfl (by decide) ?_
            refine TL.nil ?_
            refine TQ.thenC ?_
            refine TC.ret ?_
            refine TQ.thenR ?_
            refine TQ.retE1 rfl rfl ?_
            first | exact ⟨(), rfl, trivial, List.nil_sublist _⟩ | (exfalso; omega) | (exfalso; refine ?_; exact absurd (show sameB x.1 y.1 x.2.2 y.2.2 = true from decide_eq_true ⟨hx.num.trans hy.num.symm, hx.eq.trans hy.eq.symm⟩) (by assumption)) | (exfalso; simp [sameB] at hs1; exact hs1 (hx.num.trans hy.num.symm) (hx.eq.trans hy.eq.symm)) | (exfalso; simp_all; done)
          · skip
            refine TC.skip ?_
            refine TQ.thenC ?_
            refine TC.seq ?_
            have z1 : errE n rs i j = 0 := by simp_all
            have z2 : withE n rs r = 0 := by simp_all
            have z3 := errE_more z2 z1
            have q1 : x.1 = n := by rw [hx.num, if_pos z2]
            have q2 : x.2.2 = rs ++ [r] := by rw [hx.eq, if_pos z2]
            have z4 : errE x.1 x.2.2 i j = 0 := by rw [q1, q2]; exact z3
            obtain ⟨ga, a⟩ := errIs z1
            obtain ⟨gb, b⟩ := errIs z4
            have ht := err_more z2 z1
            rw [← q1, ← q2, q1] at ht
            have a1 := a.dpos
            have a2 := a.dle
            have b1 := b.dpos
            have b2 := b.dle
            have m1 := (a.nb.mul (show Bn (errD x.1 x.2.2 i j) 331776 from ⟨by omega, by omega⟩))
            have m2 := (b.nb.mul (show Bn (errD n rs i j) 331776 from ⟨by omega, by omega⟩))
            unfold Bn at m1 m2
            refine TC.region ?_
            refine TL.pure (PV.move rfl) rfl (by decide) ?_
            refine TL.pure (PV.eql rfl rfl) rfl (by decide) ?_
            refine TL.pure (PV.move rfl) rfl (by decide) ?_
            first | refine TL.splitD 66 rfl (fun g2 => ?_) (fun g2 => ?_) | refine TL.split 66 rfl (fun g2 => ?_) (fun g2 => ?_)
            · skip
              refine TL.pure (PV.fieldAddr rfl Tb.fo_46_1) rfl (by decide) ?_
              refine TL.pure (PV.load rfl Tb.one_3 (by repeat (first | exact List.Mem.head _ | refine List.Mem.tail _ ?_ | refine List.mem_append_right _ ?_)) rfl) rfl (by decide) ?_
              refine TL.pure (PV.gtr rfl rfl) rfl (by decide) ?_
              refine TL.pure (PV.pickT rfl rfl) rfl (by decide) ?_
              refine TL.pure (PV.move rfl) rfl (by decide) ?_
              first | refine TL.splitD 71 rfl (fun g3 => ?_) (fun g3 => ?_) | refine TL.split 71 rfl (fun g3 => ?_) (fun g3 => ?_)
              · skip
                refine TL.pure (PV.fieldAddr rfl Tb.fo_46_1) rfl (by decide) ?_
                refine TL.pure (PV.load rfl Tb.one_3 (by repeat (first | exact List.Mem.head _ | refine List.Mem.tail _ ?_ | refine List.mem_append_right _ ?_)) rfl) rfl (by decide) ?_
                refine TL.pure (PV.gtr rfl rfl) rfl (by decide) ?_
                refine TL.pure (PV.pickT rfl rfl) rfl (by decide) ?_
                refine TL.pure (PV.move rfl) rfl (by decide) ?_
                first | refine TL.splitD 76 rfl (fun g4 => ?_) (fun g4 => ?_) | refine TL.split 76 rfl (fun g4 => ?_) (fun g4 => ?_)
                · skip
                  refine TL.pure (PV.fieldAddr rfl Tb.fo_46_0) rfl (by decide) ?_
                  refine TL.pure (PV.load rfl Tb.one_3 (by repeat (first | exact List.Mem.head _ | refine List.Mem.tail _ ?_ | refine List.mem_append_right _ ?_)) rfl) rfl (by decide) ?_
                  refine TL.pure (PV.fieldAddr rfl Tb.fo_46_1) rfl (by decide) ?_
                  refine TL.pure (PV.load rfl Tb.one_3 (by repeat (first | exact List.Mem.head _ | refine List.Mem.tail _ ?_ | refine List.mem_append_right _ ?_)) rfl) rfl (by decide) ?_
                  refine TL.pure (PV.mul rfl rfl (by omega)) rfl (by decide) ?_
                  refine TL.pure (PV.fieldAddr rfl Tb.fo_46_0) rfl (by decide) ?_
                  refine TL.pure (PV.load rfl Tb.one_3 (by repeat (first | exact List.Mem.head _ | refine List.Mem.tail _ ?_ | refine List.mem_append_right _ ?_)) rfl) rfl (by decide) ?_
                  refine TL.pure (PV.fieldAddr rfl Tb.fo_46_1) rfl (by decide) ?_
                  refine TL.pure (PV.load rfl Tb.one_3 (by repeat (first | exact List.Mem.head _ | refine List.Mem.tail _ ?_ | refine List.mem_append_right _ ?_)) rfl) rfl (by decide) ?_
                  refine TL.pure (PV.mul rfl rfl (by omega)) rfl (by decide) ?_
                  refine TL.pure (PV.leq rfl rfl) rfl (by decide) ?_
                  refine TL.pure (PV.pickT rfl rfl) rfl (by decide) ?_
                  refine TL.pure (PV.move rfl) rfl (by decide) ?_
                  first | refine TL.splitD 89 rfl (fun h8 => ?_) (fun h8 => ?_) | refine TL.split 89 rfl (fun h8 => ?_) (fun h8 => ?_)
                  · skip
                    refine TL.call rfl Tb.gofn_18 (fun a w hs => known_ok w) rfl (by decide) (fun _ _ => ?_)
                    refine TL.pure (PV.pickT rfl rfl) rfl (by decide) ?_
                    refine TL.pure (PV.assign rfl) rfl (by decide) ?_
                    refine TL.nil ?_
                    refine TQ.thenC ?_
                    refine TC.ret ?_
                    refine TQ.retE1 rfl rfl ?_
                    first | exact ⟨(), rfl, trivial, List.nil_sublist _⟩ | (exfalso; omega) | (exfalso; refine ?_; exact absurd (show sameB x.1 y.1 x.2.2 y.2.2 = true from decide_eq_true ⟨hx.num.trans hy.num.symm, hx.eq.trans hy.eq.symm⟩) (by assumption)) | (exfalso; simp [sameB] at hs1; exact hs1 (hx.num.trans hy.num.symm) (hx.eq.trans hy.eq.symm)) | (exfalso; simp_all; done)
                  · skip
                    refine TL.skip rfl (fun k hk => by cases hk; decide) ?_
                    refine TL.pure (PV.pickF rfl rfl) rfl (by decide) ?_
                    refine TL.pure (PV.assign rfl) rfl (by decide) ?_
                    refine TL.nil ?_
                    refine TQ.thenC ?_
                    refine TC.ret ?_
                    refine TQ.retE1 rfl rfl ?_
                    first | exact ⟨(), rfl, trivial, List.nil_sublist _⟩ | (exfalso; omega) | (exfalso; refine ?_; exact absurd (show sameB x.1 y.1 x.2.2 y.2.2 = true from decide_eq_true ⟨hx.num.trans hy.num.symm, hx.eq.trans hy.eq.symm⟩) (by assumption)) | (exfalso; simp [sameB] at hs1; exact hs1 (hx.num.trans hy.num.symm) (hx.eq.trans hy.eq.symm)) | (exfalso; simp_all; done)
                · skip
                  refine TL.skip rfl (fun k hk => by cases hk; decide) ?_
                  refine TL.skip rfl (fun k hk => by cases hk; decide) ?_
                  refine TL.skip rfl (fun k hk => by cases hk; decide) ?_
                  refine TL.skip rfl (fun k hk => by cases hk; decide) ?_
                  refine TL.skip rfl (fun k hk => by cases hk; decide) ?_
                  refine TL.skip rfl (fun k hk => by cases hk; decide) ?_
                  refine TL.skip rfl (fun k hk => by cases hk; decide) ?_
                  refine TL.skip rfl (fun k hk => by cases hk; decide) ?_
                  refine TL.skip rfl (fun k hk => by cases hk; decide) ?_
                  refine TL.skip rfl (fun k hk => by cases hk; decide) ?_
                  refine TL.skip rfl (fun k hk => by cases hk; decide) ?_
                  refine TL.pure (PV.pickF rfl rfl) rfl (by decide) ?_
                  refine TL.pure (PV.move rfl) rfl (by decide) ?_
                  refine TL.skip rfl (fun k hk => by cases hk; decide) ?_
                  refine TL.pure (PV.pickF rfl rfl) rfl (by decide) ?_
                  refine TL.pure (PV.assign rfl) rfl (by decide) ?_
                  refine TL.nil ?_
                  refine TQ.thenC ?_
                  refine TC.ret ?_
                  refine TQ.retE1 rfl rfl ?_
                  first | exact ⟨(), rfl, trivial, List.nil_sublist _⟩ | (exfalso; omega) | (exfalso; refine ?_; exact absurd (show sameB x.1 y.1 x.2.2 y.2.2 = true from decide_eq_true ⟨hx.num.trans hy.num.symm, hx.eq.trans hy.eq.symm⟩) (by assumption)) | (exfalso; simp [sameB] at hs1; exact hs1 (hx.num.trans hy.num.symm) (hx.eq.trans hy.eq.symm)) | (exfalso; simp_all; done)
              · skip
                refine TL.skip rfl (fun k hk => by cases hk; decide) ?_
                refine TL.skip rfl (fun k hk => by cases hk; decide) ?_
                refine TL.skip rfl (fun k hk => by cases hk; decide) ?_
                refine TL.pure (PV.pickF rfl rfl) rfl (by decide) ?_
                refine TL.pure (PV.move rfl) rfl (by decide) ?_
                refine TL.skip rfl (fun k hk => by cases hk; decide) ?_
                refine TL.skip rfl (fun k hk => by cases hk; decide) ?_
                refine TL.skip rfl (fun k hk => by cases hk; decide) ?_
                refine TL.skip rfl (fun k hk => by cases hk; decide) ?_
                refine TL.skip rfl (fun k hk => by cases hk; decide) ?_
                refine TL.skip rfl (fun k hk => by cases hk; decide) ?_
                refine TL.skip rfl (fun k hk => by cases hk; decide) ?_
                refine TL.skip rfl (fun k hk => by cases hk; decide) ?_
                refine TL.skip rfl (fun k hk => by cases hk; decide) ?_
                refine TL.skip rfl (fun k hk => by cases hk; decide) ?_
                refine TL.skip rfl (fun k hk => by cases hk; decide) ?_
                refine TL.pure (PV.pickF rfl rfl) rfl (by decide) ?_
                refine TL.pure (PV.move rfl) rfl (by decide) ?_
                refine TL.skip rfl (fun k hk => by cases hk; decide) ?_
                refine TL.pure (PV.pickF rfl rfl) rfl (by decide) ?_
                refine TL.pure (PV.assign rfl) rfl (by decide) ?_
                refine TL.nil ?_
                refine TQ.thenC ?_
                refine TC.ret ?_
                refine TQ.retE1 rfl rfl ?_
                first | exact ⟨(), rfl, trivial, List.nil_sublist _⟩ | (exfalso; omega) | (exfalso; refine ?_; exact absurd (show sameB x.1 y.1 x.2.2 y.2.2 = true from decide_eq_true ⟨hx.num.trans hy.num.symm, hx.eq.trans hy.eq.symm⟩) (by assumption)) | (exfalso; simp [sameB] at hs1; exact hs1 (hx.num.trans hy.num.symm) (hx.eq.trans hy.eq.symm)) | (exfalso; simp_all; done)
            · skip
              refine TL.skip rfl (fun k hk => by cases hk; decide) ?_
              refine TL.skip rfl (fun k hk => by cases hk; decide) ?_
              refine TL.skip rfl (fun k hk => by cases hk; decide) ?_
              refine TL.pure (PV.pickF rfl rfl) rfl (by decide) ?_
              refine TL.pure (PV.move rfl) rfl (by decide) ?_
              refine TL.skip rfl (fun k hk => by cases hk; decide) ?_
              refine TL.skip rfl (fun k hk => by cases hk; decide) ?_
              refine TL.skip rfl (fun k hk => by cases hk; decide) ?_
              refine TL.pure (PV.pickF rfl rfl) rfl (by decide) ?_
              refine TL.pure (PV.move rfl) rfl (by decide) ?_
              refine TL.skip rfl (fun k hk => by cases hk; decide) ?_
              refine TL.skip rfl (fun k hk => by cases hk; decide) ?_
              refine TL.skip rfl (fun k hk => by cases hk; decide) ?_
              refine TL.skip rfl (fun k hk => by cases hk; decide) ?_
              refine TL.skip rfl (fun k hk => by cases hk; decide) ?_
              refine TL.skip rfl (fun k hk => by cases hk; decide) ?_
              refine TL.skip rfl (fun k hk => by cases hk; decide) ?_
              refine TL.skip rfl (fun k hk => by cases hk; decide) ?_
              refine TL.skip rfl (fun k hk => by cases hk; decide) ?_
              refine TL.skip rfl (fun k hk => by cases hk; decide) ?_
              refine TL.skip rfl (fun k hk => by cases hk; decide) ?_
              refine TL.pure (PV.pickF rfl rfl) rfl (by decide) ?_
              refine TL.pure (PV.move rfl) rfl (by decide) ?_
              refine TL.skip rfl (fun k hk => by cases hk; decide) ?_
              refine TL.pure (PV.pickF rfl rfl) rfl (by decide) ?_
              refine TL.pure (PV.assign rfl) rfl (by decide) ?_
              refine TL.nil ?_
              refine TQ.thenC ?_
              refine TC.ret ?_
              refine TQ.retE1 rfl rfl ?_
              first | exact ⟨(), rfl, trivial, List.nil_sublist _⟩ | (exfalso; omega) | (exfalso; refine ?_; exact absurd (show sameB x.1 y.1 x.2.2 y.2.2 = true from decide_eq_true ⟨hx.num.trans hy.num.symm, hx.eq.trans hy.eq.symm⟩) (by assumption)) | (exfalso; simp [sameB] at hs1; exact hs1 (hx.num.trans hy.num.symm) (hx.eq.trans hy.eq.symm)) | (exfalso; simp_all; done)

theorem levelMore_all (w0 : World) (n : Int) (p : Option Addr) (cap : Nat) (rs : List Rd) (hr : RdsAt w0 p rs) (r : Rd) (_ : I64 r.fr) (_ : I64 r.to) (_ : I64 r.rise) (_ : I64 r.wt) (i j k : Int) :
    Calls Try.prog 12 #[sv n p rs.length cap, r.val, .agg #[.int .i64 i, .int .i64 j, .int .i64 k]] w0 (Post (X := Unit) (fun _ => .bool true) (fun _ => True) (fun _ => []) w0) := levelMore_ok w0 n p cap rs hr r i j k
end Go.Proofs.Ytmmgcajegokkoaa

namespace Go.Proofs.Ytmmgcajegokkoaa
open Go.Sx Go.RowKit

theorem load_sum {N : Nat} {rs : List Rd} (hE : Ends N rs) (ρ : Rd → Int) (y : Nat → Int) : sumN N (fun q => y q * rsum rs (loadOf ρ q)) = rsum rs (fun r => r.wt * ρ r * dlt y r) := by
  rw [sumN_congr (h := fun q => rsum rs (fun r => y q * loadOf ρ q r)) (fun q _ => (rsum_mul _ _ _).symm), sumN_rsum (fun q r => y q * loadOf ρ q r)]
  refine rsum_congr fun r hr => ?_
  have hr := hE r hr
  have e : ∀ q, y q * loadOf ρ q r = (if q = r.t then y r.t * (r.wt * ρ r) else 0) - (if q = r.f then y r.f * (r.wt * ρ r) else 0) := fun q => by
    unfold loadOf
    by_cases h1 : r.t = q
    · by_cases h2 : r.f = q
      · simp [h1, h2]
      · simp [h1, h2, show ¬ q = r.f from fun e => h2 e.symm]
    · by_cases h2 : r.f = q
      · simp [h1, h2, show ¬ q = r.t from fun e => h1 e.symm, Int.mul_neg]
      · simp [h1, h2, show ¬ q = r.t from fun e => h1 e.symm, show ¬ q = r.f from fun e => h2 e.symm]
  rw [sumN_congr (fun q _ => e q), sumN_sub, sumN_single, sumN_single, if_pos hr.2.2.2, if_pos hr.2.2.1]
  unfold dlt; grind
theorem best_en {N : Nat} {rs : List Rd} (hv : Valid (N : Int) rs) (y : Nat → Int) : en rs (bestV N rs) y = denO N rs * rsum rs (fun r => r.wt * r.rise * dlt y r) := by
  rw [← parts_sum hv.ends.inN, ← load_sum hv.ends, ← sumN_mul]
  refine sumN_congr fun p hp => ?_
  rw [best_eq hv hp]; unfold bestR; grind
/-- No heights leave less than the best ones. -/
theorem best_opt {N : Nat} {rs : List Rd} (hv : Valid (N : Int) rs) (z : Nat → Int) (E : Int) :
    E * E * rsum rs (fun r => r.wt * (resid r (denO N rs) (bestV N rs) * resid r (denO N rs) (bestV N rs))) ≤ denO N rs * denO N rs * rsum rs (fun r => r.wt * (resid r E z * resid r E z)) := by
  let y : Nat → Int := fun p => denO N rs * z p - E * bestV N rs p
  have k : rsum rs (fun r => r.wt * resid r (denO N rs) (bestV N rs) * dlt y r) = 0 := by
    rw [rsum_congr (h := fun r => denO N rs * (r.wt * r.rise * dlt y r) - r.wt * (dlt (bestV N rs) r * dlt y r)) (fun r _ => by unfold resid dlt; grind), rsum_sub, rsum_mul, ← best_en hv y]
    unfold en; omega
  have e : denO N rs * denO N rs * rsum rs (fun r => r.wt * (resid r E z * resid r E z)) = E * E * rsum rs (fun r => r.wt * (resid r (denO N rs) (bestV N rs) * resid r (denO N rs) (bestV N rs))) - 2 * E * rsum rs (fun r => r.wt * resid r (denO N rs) (bestV N rs) * dlt y r) + rsum rs (fun r => r.wt * (dlt y r * dlt y r)) := by
    rw [← rsum_mul, ← rsum_mul, ← rsum_mul, ← rsum_sub, ← rsum_add]
    refine rsum_congr fun r _ => ?_
    simp only [y]; unfold resid dlt; grind
  have hn := en_nonneg hv.wt y
  unfold en at hn
  rw [k] at e
  omega
theorem mS_rsum (rs : List Rd) (h : Rd → Int) {g : Nat → Int} (e : ∀ k, k < rs.length → g k = h (rs.getD k default)) : mS rs g rs.length = rsum rs (fun r => r.wt * (h r * h r)) := by
  rw [rsum_sumN]
  refine sumN_congr fun k hk => ?_
  rw [e k hk]; grind
theorem lv_resid {n : Int} {rs : List Rd} (hv : Valid n rs) {k : Nat} (hk : k < rs.length) : lvF n rs k = resid (rs.getD k default) (denO n.toNat rs) (bestV n.toNat rs) := by
  obtain ⟨i1, i2, i3⟩ := rd_in hv hk
  have s1 : (solN n.toNat rs (bestL n.toNat rs)).getD (rs.getD k default).fr.toNat 0 = bestV n.toNat rs (rs.getD k default).f := solZ_get _ _ _ i1
  have s2 : (solN n.toNat rs (bestL n.toNat rs)).getD (rs.getD k default).to.toNat 0 = bestV n.toNat rs (rs.getD k default).t := solZ_get _ _ _ i2
  unfold lvF resR resid
  rw [s1, s2]
theorem mf_opt {n : Int} {rs : List Rd} (hv : Valid n rs) (z : Nat → Int) {g : Nat → Int} (e : ∀ k, k < rs.length → g k = resid (rs.getD k default) 1 z) :
    mS rs (lvF n rs) rs.length ≤ denO n.toNat rs * denO n.toNat rs * mS rs g rs.length := by
  have h := best_opt hv.nat.1 z 1
  rw [← mS_rsum rs _ (fun k hk => lv_resid hv hk), ← mS_rsum rs _ e] at h
  omega
theorem mf_more {n : Int} {rs : List Rd} {r : Rd} (hv : Valid n rs) (hv' : Valid n (rs ++ [r])) :
    denO n.toNat (rs ++ [r]) * denO n.toNat (rs ++ [r]) * mS rs (lvF n rs) rs.length ≤ denO n.toNat rs * denO n.toNat rs * mS (rs ++ [r]) (lvF n (rs ++ [r])) (rs ++ [r]).length := by
  have h := best_opt hv.nat.1 (bestV n.toNat (rs ++ [r])) (denO n.toNat (rs ++ [r]))
  rw [← mS_rsum rs _ (fun k hk => lv_resid hv hk)] at h
  refine Int.le_trans h (Int.mul_le_mul_of_nonneg_left ?_ (sq_nonneg _))
  rw [mS_rsum (rs ++ [r]) (fun q => resid q (denO n.toNat (rs ++ [r])) (bestV n.toNat (rs ++ [r]))) (fun k hk => lv_resid hv' hk), rsum_snoc]
  have hw := hv'.nat.1.wt r (List.mem_append_right _ (List.mem_singleton.2 rfl))
  have := Int.mul_nonneg (show 0 ≤ r.wt by omega) (sq_nonneg (resid r (denO n.toNat (rs ++ [r])) (bestV n.toNat (rs ++ [r]))))
  omega
structure MfIs (n : Int) (rs : List Rd) (g : Int) : Prop where
  pos : 0 < g
  num : mfA n rs * g = mS rs (lvF n rs) rs.length
  den : mfB n rs * g = denO n.toNat rs * denO n.toNat rs
  nn : 0 ≤ mfA n rs
  nb : mfA n rs ≤ 4000000000000000000
  dpos : 1 ≤ mfB n rs
  dle : mfB n rs ≤ 697276836
theorem mS_nn {n : Int} {rs : List Rd} (hv : Valid n rs) (g : Nat → Int) : ∀ m, m ≤ rs.length → 0 ≤ mS rs g m
  | 0, _ => by simp [mS, sumN]
  | m + 1, h => by
    have ih := mS_nn hv g m (by omega)
    have h1 := hv.at (k := m) (by omega)
    have h2 := Int.mul_nonneg (show 0 ≤ (rs.getD m default).wt by omega) (sq_nonneg (g m))
    rw [← Int.mul_assoc] at h2
    show 0 ≤ mS rs g m + (rs.getD m default).wt * g m * g m
    omega
theorem mfIs {n : Int} {rs : List Rd} (hv : Valid n rs) : ∃ g, MfIs n rs g := by
  have hd := denO_pos hv.nat.1
  have ht := denO_tight hv.nat.1
  have hq := sq_bn hd.1 ht
  have hl := hv.len
  have hb := (mS_bn hv (lv_all hv) rs.length (Nat.le_refl _)).mono (B := 4000000000000000000) (by omega)
  have hn := mS_nn hv (lvF n rs) rs.length (Nat.le_refl _)
  have hg := low_bound (num := mS rs (lvF n rs) rs.length) (den := denO n.toNat rs * denO n.toNat rs) (by omega)
  have hc := low_cut (mS rs (lvF n rs) rs.length) (denO n.toNat rs * denO n.toNat rs)
  refine ⟨lowG (mS rs (lvF n rs) rs.length) (denO n.toNat rs * denO n.toNat rs), hg, hc.1, hc.2, Int.tdiv_nonneg hn (by omega), (tdiv_bound hb.1 hb.2 (by omega)).2, ?_, ?_⟩
  · rcases Int.lt_or_le 0 (mfB n rs) with h1 | h1
    · omega
    · have h2 : mfB n rs * lowG (mS rs (lvF n rs) rs.length) (denO n.toNat rs * denO n.toNat rs) = denO n.toNat rs * denO n.toNat rs := hc.2
      have := Int.mul_nonpos_of_nonpos_of_nonneg h1 (show 0 ≤ lowG (mS rs (lvF n rs) rs.length) (denO n.toNat rs * denO n.toNat rs) by omega)
      omega
  · exact (tdiv_bound (g := lowG (mS rs (lvF n rs) rs.length) (denO n.toNat rs * denO n.toNat rs)) (a := denO n.toNat rs * denO n.toNat rs) (B := 697276836) (by omega) (by omega) (by omega)).2
theorem mf_le {n : Int} {rs : List Rd} (hv : Valid n rs) (z : Nat → Int) {g : Nat → Int} (e : ∀ k, k < rs.length → g k = resid (rs.getD k default) 1 z) : mfA n rs ≤ mfB n rs * mS rs g rs.length := by
  obtain ⟨c, h⟩ := mfIs hv
  have k := mf_opt hv z e
  rw [← h.num, ← h.den] at k
  have e1 : mfB n rs * mS rs g rs.length * c = mfB n rs * c * mS rs g rs.length := by grind
  rw [← e1] at k
  exact Int.le_of_mul_le_mul_right k h.pos
theorem mf_up {n : Int} {rs : List Rd} {r : Rd} (hv : Valid n rs) (hv' : Valid n (rs ++ [r])) : mfA n rs * mfB n (rs ++ [r]) ≤ mfA n (rs ++ [r]) * mfB n rs := by
  obtain ⟨c, h⟩ := mfIs hv
  obtain ⟨d, h'⟩ := mfIs hv'
  have k := mf_more hv hv'
  rw [← h.num, ← h.den, ← h'.num, ← h'.den] at k
  have e1 : mfA n rs * mfB n (rs ++ [r]) * (c * d) = mfB n (rs ++ [r]) * d * (mfA n rs * c) := by grind
  have e2 : mfA n (rs ++ [r]) * mfB n rs * (c * d) = mfB n rs * c * (mfA n (rs ++ [r]) * d) := by grind
  rw [← e1, ← e2] at k
  exact Int.le_of_mul_le_mul_right k (Int.mul_pos h.pos h'.pos)
theorem quo_le {A B T : Int} (hA : 0 ≤ A) (hB : 0 < B) (h : A ≤ B * T) : A.tdiv B ≤ T ∧ (A.tdiv B = T → A.tmod B ≤ 0) := by
  have e := Int.mul_tdiv_add_tmod A B
  have m := Int.tmod_nonneg B hA
  constructor
  · rcases Int.lt_or_le T (A.tdiv B) with hh | hh
    · have := Int.mul_le_mul_of_nonneg_left (show T + 1 ≤ A.tdiv B by omega) (show 0 ≤ B by omega)
      rw [Int.mul_add, Int.mul_one] at this
      omega
    · exact hh
  · intro hh; rw [hh] at e; omega
theorem quo_mono {A B C D : Int} (hA : 0 ≤ A) (hB : 0 < B) (hC : 0 ≤ C) (hD : 0 < D) (h : A * D ≤ C * B) : A.tdiv B ≤ C.tdiv D := by
  rcases Int.lt_or_le (C.tdiv D) (A.tdiv B) with hh | hh
  · exfalso
    have e1 := Int.mul_tdiv_add_tmod A B
    have m1 := Int.tmod_nonneg B hA
    have e2 := Int.mul_tdiv_add_tmod C D
    have m2 := Int.tmod_lt_of_pos C hD
    have h1 := Int.mul_le_mul_of_nonneg_left (show C.tdiv D + 1 ≤ A.tdiv B by omega) (show 0 ≤ B by omega)
    have h2 : C < D * (C.tdiv D + 1) := by rw [Int.mul_add, Int.mul_one]; omega
    have h3 := Int.mul_lt_mul_of_pos_right h2 hB
    have h4 := Int.mul_le_mul_of_nonneg_left (show B * (C.tdiv D + 1) ≤ A by omega) (show 0 ≤ D by omega)
    have e3 : D * (C.tdiv D + 1) * B = D * (B * (C.tdiv D + 1)) := by grind
    have e4 : D * A = A * D := by grind
    omega
  · exact hh

end Go.Proofs.Ytmmgcajegokkoaa

namespace Go.Proofs.Ytmmgcajegokkoaa
open Go.Sx Go.RowKit

def rsT : List Rd := [⟨0, 1, 0, 1⟩, ⟨1, 2, 0, 1⟩, ⟨0, 2, 0, 1⟩]
theorem err_T : errN 3 rsT 0 2 = 2 ∧ errD 3 rsT 0 2 = 3 ∧ errE 3 rsT 0 2 = 0 := by decide +kernel
theorem errT (w : World) (p : Option Addr) (hr : RdsAt w p rsT) : Calls Try.prog 44 #[.agg #[.int .i64 3, .slice p 3 3], .int .i64 0, .int .i64 2] w (Post (X := Unit) (fun _ => .tuple #[.agg #[.int .i64 2, .int .i64 3], .int .i64 0]) (fun _ => True) (fun _ => []) w) := by
  have h := error_any w 3 p 3 rsT hr 0 2
  rw [err_T.1, err_T.2.1, err_T.2.2] at h
  exact h
theorem fill_b (a b c : Int) : Instr.fill ([(0, 1), (1, 1), (2, 1), (3, 1)][·]?) #[(Value.int .i64 0), (.int .i64 0), (.int .i64 0), (.int .i64 0)] [(0, Value.int .i64 a), (1, .int .i64 b), (3, .int .i64 c)] = some (recA [Rd.cells ⟨a, b, 0, c⟩]) := by kernel_rfl
theorem fill_t3 : Instr.fill (fun i => some (i * 4, 4)) ((Array.range (3 * 4)).map ((Value.agg #[(.int .i64 0), (.int .i64 0), (.int .i64 0), (.int .i64 0)]).cells[· % (Value.agg #[(.int .i64 0), (.int .i64 0), (.int .i64 0), (.int .i64 0)]).cells.size]!)) [(0, .agg (recA [Rd.cells ⟨0, 1, 0, 1⟩])), (1, .agg (recA [Rd.cells ⟨1, 2, 0, 1⟩])), (2, .agg (recA [Rd.cells ⟨0, 2, 0, 1⟩]))] = some (recA (rsT.map Rd.cells)) := by kernel_rfl
theorem misfitS (w : World) (n : Int) (h : HD) (K : Nat) (rs : List Rd) (hK : rs.length = K) (ho : goS h rs) (hr : RdsAt w (gp h) rs) :
    Calls Try.prog 39 #[.agg #[.int .i64 n, gval h K]] w (Post (X := Unit) (fun _ => .tuple #[.agg #[.int .i64 (mfV n rs (mfA n rs)), .int .i64 (mfV n rs (mfB n rs))], .int .i64 (validateI n rs)]) (fun _ => True) (fun _ => []) w) := by
  have hc := Misfit_v w n (gp h) (gc h) rs hr
  rw [gvS_eq ho hK]; subst hK
  exact hc
/-- The heights that are tried. -/
def zz (b : Bool) (zs : List Int) (p : Nat) : Int := if b = true then zs.getD p 0 else 0
def gz (b : Bool) (zs : List Int) (rs : List Rd) (k : Nat) : Int := resid (rs.getD k default) 1 (zz b zs)
theorem zz_bn {b : Bool} {zs : List Int} (h : b = true → ∀ j, j < zs.length → -4000 ≤ zs.getD j 0 ∧ zs.getD j 0 ≤ 4000) (p : Nat) : -4000 ≤ zz b zs p ∧ zz b zs p ≤ 4000 := by
  unfold zz
  split
  · next hb =>
    by_cases hp : p < zs.length
    · exact h hb p hp
    · have : zs.getD p 0 = 0 := by simp [List.getD, hp]
      omega
  · omega
theorem gz_bn {n : Int} {rs : List Rd} (hv : Valid n rs) {b : Bool} {zs : List Int} (h : b = true → ∀ j, j < zs.length → -4000 ≤ zs.getD j 0 ∧ zs.getD j 0 ≤ 4000) : ∀ k, k < rs.length → Bn (gz b zs rs k) 9000 := fun k hk => by
  have h1 := (hv.at hk).2.2.2.1
  have h2 := zz_bn h (rs.getD k default).t
  have h3 := zz_bn h (rs.getD k default).f
  unfold gz resid
  unfold Bn
  have h1a := h1.1
  have h1b := h1.2
  omega
theorem errBn (n : Int) (rs : List Rd) (i j : Int) : Bn (errN n rs i j) 1327104 ∧ Bn (errD n rs i j) 331776 := by
  by_cases h : errE n rs i j = 0
  · obtain ⟨g, a⟩ := errIs h
    have a1 := a.dpos
    have a2 := a.dle
    exact ⟨a.nb, by unfold Bn; omega⟩
  · rw [errN, if_neg h, errD, if_neg h]; unfold Bn; omega
theorem err_imp {n : Int} {rs : List Rd} {r : Rd} {i j : Int} (hw : withE n rs r = 0) (h : errE n rs i j = 0) : errE n (rs ++ [r]) i j = 0 ∧ 1 ≤ errD n rs i j ∧ 1 ≤ errD n (rs ++ [r]) i j ∧ errN n (rs ++ [r]) i j * errD n rs i j ≤ errN n rs i j * errD n (rs ++ [r]) i j := by
  obtain ⟨g, a⟩ := errIs h
  obtain ⟨g', a'⟩ := errIs (errE_more hw h)
  exact ⟨errE_more hw h, a.dpos, a'.dpos, err_more hw h⟩


set_option maxRecDepth 100000 in
set_option maxHeartbeats 4000000 in
theorem topHeights_ok (w0 : World) (n : Int) (p : Option Addr) (cap : Nat) (rs : List Rd) (hr : RdsAt w0 p rs) (pn : Option Addr) (cn : Nat) (zs : List Int) (ci cj : Int) (hz : IntsAt w0 pn zs) (r : Rd) :
    Calls Try.prog 16 #[sv n p rs.length cap, .agg #[.slice pn zs.length cn, .int .i64 ci, .int .i64 cj], r.val] w0 (Post (X := Unit) (fun _ => .bool true) (fun _ => True) (fun _ => []) w0) := by
  refine calls Try.func16 rfl (n := 327) rfl (by simp) ?_
  refine TC.seq ?_
  refine TC.region ?_
  refine TL.box rfl rfl (by decide) (fun b0 hb0 => ?_)
  refine TL.box rfl rfl (by decide) (fun b1 hb1 => ?_)
  refine TL.box rfl rfl (by decide) (fun b2 hb2 => ?_)
  refine TL.pure (PV.assign rfl) rfl (by decide) ?_
  refine TL.nil ?_
  refine TQ.thenC ?_
  refine TC.seq ?_
  refine TC.region ?_
  refine TL.pure (PV.build rfl Tb.zero_61 Tb.pl_61 (fill_b 0 1 1)) rfl (by decide) ?_
  refine TL.pure (PV.build rfl Tb.zero_61 Tb.pl_61 (fill_b 1 2 1)) rfl (by decide) ?_
  refine TL.pure (PV.build rfl Tb.zero_61 Tb.pl_61 (fill_b 0 2 1)) rfl (by decide) ?_
  refine TL.buildSlice (cs := recA (rsT.map Rd.cells)) rfl Tb.sl_22 Tb.zi_61 (by decide) fill_t3 (by decide) rfl (by decide) (fun bS hbS => ?_)
  refine TL.pure (PV.build (cs := #[.int .i64 3, .slice (some ⟨bS, 0, none⟩) 3 3]) rfl Tb.zero_24 Tb.pl_24 (by kernel_rfl)) rfl (by decide) ?_
  refine TL.alloc Tb.zero_24 rfl (by decide) (fun b3 hb3 => ?_)
  refine TL.storeAgg rfl rfl Tb.cells_24 (by repeat (first | exact Upd.head _ | apply Upd.tail | apply Upd.appR)) rfl rfl (by first | rfl | exact sv_one _ _ _) rfl rfl ?_
  refine TL.nil ?_
  refine TQ.thenC ?_
  refine TC.seq ?_
  refine TC.seq ?_
  refine TC.region ?_
  refine TL.pure (PV.loadBox rfl Tb.agg_24 (by repeat (first | exact List.Mem.head _ | refine List.Mem.tail _ ?_ | refine List.mem_append_right _ ?_)) rfl) rfl (by decide) ?_
  refine TL.call rfl Tb.gofn_44 (fun a w hs => errT w (some ⟨bS, 0, none⟩) (RdsAt.blk hs.new (by repeat (first | exact List.Mem.head _ | refine List.Mem.tail _ ?_ | refine List.mem_append_right _ ?_)))) rfl (by decide) (fun _ _ => ?_)
  refine TL.pure (PV.move rfl) rfl (by decide) ?_
  refine TL.pure (PV.extract rfl rfl) rfl (by decide) ?_
  refine TL.pure (PV.extract rfl rfl) rfl (by decide) ?_
  refine TL.alloc Tb.zero_46 rfl (by decide) (fun b4 hb4 => ?_)
  refine TL.storeAgg rfl rfl Tb.cells_46 (by repeat (first | exact Upd.head _ | apply Upd.tail | apply Upd.appR)) rfl rfl rfl rfl rfl ?_
  refine TL.pure (PV.assign rfl) rfl (by decide) ?_
  refine TL.nil ?_
  refine TQ.thenC ?_
  refine TC.seq ?_
  refine TC.region ?_
  refine TL.pure (PV.move rfl) rfl (by decide) ?_
  refine TL.pure (PV.neq rfl rfl) rfl (by decide) ?_
  refine TL.pure (PV.move rfl) rfl (by decide) ?_
  first | refine TL.splitD 42 rfl (fun g0 => ?_) (fun g0 => ?_) | refine TL.split 42 rfl (fun g0 => ?_) (fun g0 => ?_)
  · skip
    refine TL.skip rfl (fun k hk => by cases hk; decide) ?_
    refine TL.skip rfl (fun k hk => by cases hk; decide) ?_
    refine TL.skip rfl (fun k hk => by cases hk; decide) ?_
    refine TL.pure (PV.pickT rfl rfl) rfl (by decide) ?_
    refine TL.nil ?_
    refine TQ.thenC ?_
    refine TC.condT rfl ?_
    refine TC.seq ?_
    refine TC.region ?_
    refine TL.pure (PV.assign rfl) rfl (by decide) ?_
    refine TL.nil ?_
    refine TQ.thenC ?_
    refine TC.ret ?_
    refine TQ.thenR ?_
    refine TQ.retE1 rfl rfl ?_
    first | exact ⟨(), rfl, trivial, List.nil_sublist _⟩ | exact ⟨(), by rw [decide_eq_true (himp (Decidable.of_not_not g15)).2.2.2], trivial, List.nil_sublist _⟩ | (exfalso; omega) | exact ⟨(), by simp; omega, trivial, List.nil_sublist _⟩ | (exfalso; simp_all; done) | (exfalso; simp_all; omega) | exact ⟨(), by simp, trivial, List.nil_sublist _⟩
  · skip
    refine TL.pure (PV.loadBox rfl Tb.agg_46 (by repeat (first | exact List.Mem.head _ | refine List.Mem.tail _ ?_ | refine List.mem_append_right _ ?_)) rfl) rfl (by decide) ?_
    refine TL.pure (PV.build (cs := #[.int .i64 2, .int .i64 3]) rfl Tb.zero_46 Tb.pl_46 (by kernel_rfl)) rfl (by decide) ?_
    refine TL.pure (PV.cmp rfl rfl (eq46n_guard _ _ _ _ _ _) (eq46n _ _ _ _)) rfl (by decide) ?_
    refine TL.pure (PV.pickF rfl rfl) rfl (by decide) ?_
    refine TL.nil ?_
    refine TQ.thenC ?_
    first | refine TC.condD rfl (fun hk0 => ?_) (fun hk0 => ?_) | refine TC.cond rfl (fun hk0 => ?_) (fun hk0 => ?_)
    · skip
      refine TC.seq ?_
      refine TC.region ?_
      refine TL.pure (PV.assign rfl) rfl (by decide) ?_
      refine TL.nil ?_
      refine TQ.thenC ?_
      refine TC.ret ?_
      refine TQ.thenR ?_
      refine TQ.retE1 rfl rfl ?_
      first | exact ⟨(), rfl, trivial, List.nil_sublist _⟩ | exact ⟨(), by rw [decide_eq_true (himp (Decidable.of_not_not g15)).2.2.2], trivial, List.nil_sublist _⟩ | (exfalso; omega) | exact ⟨(), by simp; omega, trivial, List.nil_sublist _⟩ | (exfalso; simp_all; done) | (exfalso; simp_all; omega) | exact ⟨(), by simp, trivial, List.nil_sublist _⟩
    · skip
      refine TC.skip ?_
      refine TQ.thenC ?_
      refine TC.seq ?_
      refine TC.seq ?_
      refine TC.region ?_
      refine TL.pure (PV.loadBox rfl Tb.agg_24 (by repeat (first | exact List.Mem.head _ | refine List.Mem.tail _ ?_ | refine List.mem_append_right _ ?_)) rfl) rfl (by decide) ?_
      refine TL.call rfl Tb.gofn_17 (fun a w hs => long_ok w _ _ _ _) rfl (by decide) (fun _ _ => ?_)
      refine TL.pure (PV.move rfl) rfl (by decide) ?_
      first | refine TL.splitD 49 rfl (fun g1 => ?_) (fun g1 => ?_) | refine TL.split 49 rfl (fun g1 => ?_) (fun g1 => ?_)
      · skip
        refine TL.skip rfl (fun k hk => by cases hk; decide) ?_
        refine TL.skip rfl (fun k hk => by cases hk; decide) ?_
        refine TL.skip rfl (fun k hk => by cases hk; decide) ?_
        refine TL.skip rfl (fun k hk => by cases hk; decide) ?_
        refine TL.pure (PV.pickT rfl rfl) rfl (by decide) ?_
        refine TL.nil ?_
        refine TQ.thenC ?_
        refine TC.condT rfl ?_
        refine TC.seq ?_
        refine TC.region ?_
        refine TL.pure (PV.assign rfl) rfl (by decide) ?_
        refine TL.nil ?_
        refine TQ.thenC ?_
        refine TC.ret ?_
        refine TQ.thenR ?_
        refine TQ.retE1 rfl rfl ?_
        first | exact ⟨(), rfl, trivial, List.nil_sublist _⟩ | exact ⟨(), by rw [decide_eq_true (himp (Decidable.of_not_not g15)).2.2.2], trivial, List.nil_sublist _⟩ | (exfalso; omega) | exact ⟨(), by simp; omega, trivial, List.nil_sublist _⟩ | (exfalso; simp_all; done) | (exfalso; simp_all; omega) | exact ⟨(), by simp, trivial, List.nil_sublist _⟩
      · skip
        refine TL.pure (PV.fieldAddr rfl Tb.fo_74_0) rfl (by decide) ?_
        refine TL.pure (PV.load rfl Tb.one_31 (by repeat (first | exact List.Mem.head _ | refine List.Mem.tail _ ?_ | refine List.mem_append_right _ ?_)) rfl) rfl (by decide) ?_
        refine TL.pure (PV.len rfl Tb.sl_31) rfl (by decide) ?_
        refine TL.pure (PV.gtr rfl rfl) rfl (by decide) ?_
        refine TL.pure (PV.pickF rfl rfl) rfl (by decide) ?_
        refine TL.nil ?_
        refine TQ.thenC ?_
        first | refine TC.condD rfl (fun hlong => ?_) (fun hlong => ?_) | refine TC.cond rfl (fun hlong => ?_) (fun hlong => ?_)
        · skip
          refine TC.seq ?_
          refine TC.region ?_
          refine TL.pure (PV.assign rfl) rfl (by decide) ?_
          refine TL.nil ?_
          refine TQ.thenC ?_
          refine TC.ret ?_
          refine TQ.thenR ?_
          refine TQ.retE1 rfl rfl ?_
          first | exact ⟨(), rfl, trivial, List.nil_sublist _⟩ | exact ⟨(), by rw [decide_eq_true (himp (Decidable.of_not_not g15)).2.2.2], trivial, List.nil_sublist _⟩ | (exfalso; omega) | exact ⟨(), by simp; omega, trivial, List.nil_sublist _⟩ | (exfalso; simp_all; done) | (exfalso; simp_all; omega) | exact ⟨(), by simp, trivial, List.nil_sublist _⟩
        · skip
          refine TC.skip ?_
          refine TQ.thenC ?_
          refine TC.seq ?_
          refine TC.region ?_
          refine TL.pure (PV.loadBox rfl Tb.agg_24 (by repeat (first | exact List.Mem.head _ | refine List.Mem.tail _ ?_ | refine List.mem_append_right _ ?_)) rfl) rfl (by decide) ?_
          refine TL.call rfl Tb.gofn_19 (fun a w hs => Parts_ok w _ _ _ _ (hr.new hs.new)) rfl (by decide) (fun x hx => ?_)
          refine TL.pure (PV.move rfl) rfl (by decide) ?_
          refine TL.pure (PV.extract rfl rfl) rfl (by decide) ?_
          refine TL.pure (PV.extract rfl rfl) rfl (by decide) ?_
          refine TL.pure (PV.assign rfl) rfl (by decide) ?_
          refine TL.pure (PV.assign rfl) rfl (by decide) ?_
          refine TL.nil ?_
          refine TQ.thenC ?_
          refine TC.seq ?_
          refine TC.region ?_
          refine TL.pure (PV.loadBox rfl Tb.agg_24 (by repeat (first | exact List.Mem.head _ | refine List.Mem.tail _ ?_ | refine List.mem_append_right _ ?_)) rfl) rfl (by decide) ?_
          refine TL.call rfl Tb.gofn_39 (fun a w hs => Misfit_v w _ _ _ _ (hr.new hs.new)) rfl (by decide) (fun _ _ => ?_)
          refine TL.pure (PV.move rfl) rfl (by decide) ?_
          refine TL.pure (PV.extract rfl rfl) rfl (by decide) ?_
          refine TL.pure (PV.extract rfl rfl) rfl (by decide) ?_
          refine TL.alloc Tb.zero_46 rfl (by decide) (fun b5 hb5 => ?_)
          refine TL.storeAgg rfl rfl Tb.cells_46 (by repeat (first | exact Upd.head _ | apply Upd.tail | apply Upd.appR)) rfl rfl rfl rfl rfl ?_
          refine TL.pure (PV.assign rfl) rfl (by decide) ?_
          refine TL.nil ?_
          refine TQ.thenC ?_
          refine TC.seq ?_
          refine TC.seq ?_
          refine TC.region ?_
          refine TL.pure (PV.move rfl) rfl (by decide) ?_
          refine TL.pure (PV.neq rfl rfl) rfl (by decide) ?_
          refine TL.pure (PV.move rfl) rfl (by decide) ?_
          first | refine TL.splitD 67 rfl (fun g2 => ?_) (fun g2 => ?_) | refine TL.split 67 rfl (fun g2 => ?_) (fun g2 => ?_)
          · skip
            refine TL.skip rfl (fun k hk => by cases hk; decide) ?_
            refine TL.skip rfl (fun k hk => by cases hk; decide) ?_
            refine TL.pure (PV.pickT rfl rfl) rfl (by decide) ?_
            refine TL.nil ?_
            refine TQ.thenC ?_
            refine TC.condT rfl ?_
            refine TC.seq ?_
            refine TC.region ?_
            refine TL.pure (PV.move rfl) rfl (by decide) ?_
            refine TL.pure (PV.move rfl) rfl (by decide) ?_
            refine TL.pure (PV.eql rfl rfl) rfl (by decide) ?_
            refine TL.pure (PV.assign rfl) rfl (by decide) ?_
            refine TL.nil ?_
            refine TQ.thenC ?_
            refine TC.ret ?_
            refine TQ.thenR ?_
            refine TQ.retE1 rfl rfl ?_
            first | exact ⟨(), rfl, trivial, List.nil_sublist _⟩ | exact ⟨(), by rw [decide_eq_true (himp (Decidable.of_not_not g15)).2.2.2], trivial, List.nil_sublist _⟩ | (exfalso; omega) | exact ⟨(), by simp; omega, trivial, List.nil_sublist _⟩ | (exfalso; simp_all; done) | (exfalso; simp_all; omega) | exact ⟨(), by simp, trivial, List.nil_sublist _⟩
          · skip
            refine TL.pure (PV.move rfl) rfl (by decide) ?_
            refine TL.pure (PV.neq rfl rfl) rfl (by decide) ?_
            refine TL.pure (PV.pickF rfl rfl) rfl (by decide) ?_
            refine TL.nil ?_
            refine TQ.thenC ?_
            first | refine TC.condD rfl (fun hbad => ?_) (fun hbad => ?_) | refine TC.cond rfl (fun hbad => ?_) (fun hbad => ?_)
            · skip
              refine TC.seq ?_
              refine TC.region ?_
              refine TL.pure (PV.move rfl) rfl (by decide) ?_
              refine TL.pure (PV.move rfl) rfl (by decide) ?_
              refine TL.pure (PV.eql rfl rfl) rfl (by decide) ?_
              refine TL.pure (PV.assign rfl) rfl (by decide) ?_
              refine TL.nil ?_
              refine TQ.thenC ?_
              refine TC.ret ?_
              refine TQ.thenR ?_
              refine TQ.retE1 rfl rfl ?_
              first | exact ⟨(), rfl, trivial, List.nil_sublist _⟩ | exact ⟨(), by rw [decide_eq_true (himp (Decidable.of_not_not g15)).2.2.2], trivial, List.nil_sublist _⟩ | (exfalso; omega) | exact ⟨(), by simp; omega, trivial, List.nil_sublist _⟩ | (exfalso; simp_all; done) | (exfalso; simp_all; omega) | exact ⟨(), by simp, trivial, List.nil_sublist _⟩
            · skip
              refine TC.skip ?_
              refine TQ.thenC ?_
              refine TC.seq ?_
              refine TC.seq ?_
              have hv : Valid n rs := Decidable.of_not_not (p := validateI n rs = 0) (by first | exact not_not_intro (by simp_all) | simp_all)
              rw [show mfV n rs (mfA n rs) = mfA n rs from if_pos hv, show mfV n rs (mfB n rs) = mfB n rs from if_pos hv]
              obtain ⟨gm, m⟩ := mfIs hv
              have m1 := m.nn
              have m2 := m.nb
              have m3 := m.dpos
              have m4 := m.dle
              have hcnt := hx.count hv
              have hnr := nonroots_nn n.toNat rs
              have hp := hv.pts
              have hll := hv.len
              have tb := tdiv_bound (g := mfB n rs) (a := mfA n rs) (B := 4000000000000000000) (by omega) (by omega) (by omega)
              have tn := Int.tdiv_nonneg (a := mfA n rs) (b := mfB n rs) m1 (by omega)
              refine TC.region ?_
              refine TL.pure (PV.fieldAddr rfl Tb.fo_46_1) rfl (by decide) ?_
              refine TL.pure (PV.load rfl Tb.one_3 (by repeat (first | exact List.Mem.head _ | refine List.Mem.tail _ ?_ | refine List.mem_append_right _ ?_)) rfl) rfl (by decide) ?_
              refine TL.pure (PV.lss rfl rfl) rfl (by decide) ?_
              refine TL.pure (PV.move rfl) rfl (by decide) ?_
              first | refine TL.splitD 77 rfl (fun g3 => ?_) (fun g3 => ?_) | refine TL.split 77 rfl (fun g3 => ?_) (fun g3 => ?_)
              · skip
                refine TL.skip rfl (fun k hk => by cases hk; decide) ?_
                refine TL.skip rfl (fun k hk => by cases hk; decide) ?_
                refine TL.skip rfl (fun k hk => by cases hk; decide) ?_
                refine TL.pure (PV.pickT rfl rfl) rfl (by decide) ?_
                refine TL.pure (PV.move rfl) rfl (by decide) ?_
                refine TL.skip rfl (fun k hk => by cases hk; decide) ?_
                refine TL.skip rfl (fun k hk => by cases hk; decide) ?_
                refine TL.skip rfl (fun k hk => by cases hk; decide) ?_
                refine TL.pure (PV.pickT rfl rfl) rfl (by decide) ?_
                refine TL.nil ?_
                refine TQ.thenC ?_
                refine TC.condT rfl ?_
                refine TC.seq ?_
                refine TC.region ?_
                refine TL.pure (PV.assign rfl) rfl (by decide) ?_
                refine TL.nil ?_
                refine TQ.thenC ?_
                refine TC.ret ?_
                refine TQ.thenR ?_
                refine TQ.retE1 rfl rfl ?_
                first | exact ⟨(), rfl, trivial, List.nil_sublist _⟩ | exact ⟨(), by rw [decide_eq_true (himp (Decidable.of_not_not g15)).2.2.2], trivial, List.nil_sublist _⟩ | (exfalso; omega) | exact ⟨(), by simp; omega, trivial, List.nil_sublist _⟩ | (exfalso; simp_all; done) | (exfalso; simp_all; omega) | exact ⟨(), by simp, trivial, List.nil_sublist _⟩
              · skip
                refine TL.pure (PV.fieldAddr rfl Tb.fo_46_1) rfl (by decide) ?_
                refine TL.pure (PV.load rfl Tb.one_3 (by repeat (first | exact List.Mem.head _ | refine List.Mem.tail _ ?_ | refine List.mem_append_right _ ?_)) rfl) rfl (by decide) ?_
                refine TL.pure (PV.gtr rfl rfl) rfl (by decide) ?_
                refine TL.pure (PV.pickF rfl rfl) rfl (by decide) ?_
                refine TL.pure (PV.move rfl) rfl (by decide) ?_
                first | refine TL.splitD 82 rfl (fun g4 => ?_) (fun g4 => ?_) | refine TL.split 82 rfl (fun g4 => ?_) (fun g4 => ?_)
                · skip
                  refine TL.skip rfl (fun k hk => by cases hk; decide) ?_
                  refine TL.skip rfl (fun k hk => by cases hk; decide) ?_
                  refine TL.skip rfl (fun k hk => by cases hk; decide) ?_
                  refine TL.pure (PV.pickT rfl rfl) rfl (by decide) ?_
                  refine TL.nil ?_
                  refine TQ.thenC ?_
                  refine TC.condT rfl ?_
                  refine TC.seq ?_
                  refine TC.region ?_
                  refine TL.pure (PV.assign rfl) rfl (by decide) ?_
                  refine TL.nil ?_
                  refine TQ.thenC ?_
                  refine TC.ret ?_
                  refine TQ.thenR ?_
                  refine TQ.retE1 rfl rfl ?_
                  first | exact ⟨(), rfl, trivial, List.nil_sublist _⟩ | exact ⟨(), by rw [decide_eq_true (himp (Decidable.of_not_not g15)).2.2.2], trivial, List.nil_sublist _⟩ | (exfalso; omega) | exact ⟨(), by simp; omega, trivial, List.nil_sublist _⟩ | (exfalso; simp_all; done) | (exfalso; simp_all; omega) | exact ⟨(), by simp, trivial, List.nil_sublist _⟩
                · skip
                  refine TL.pure (PV.fieldAddr rfl Tb.fo_46_0) rfl (by decide) ?_
                  refine TL.pure (PV.load rfl Tb.one_3 (by repeat (first | exact List.Mem.head _ | refine List.Mem.tail _ ?_ | refine List.mem_append_right _ ?_)) rfl) rfl (by decide) ?_
                  refine TL.pure (PV.lss rfl rfl) rfl (by decide) ?_
                  refine TL.pure (PV.pickF rfl rfl) rfl (by decide) ?_
                  refine TL.nil ?_
                  refine TQ.thenC ?_
                  first | refine TC.condD rfl (fun hmf => ?_) (fun hmf => ?_) | refine TC.cond rfl (fun hmf => ?_) (fun hmf => ?_)
                  · skip
                    refine TC.seq ?_
                    refine TC.region ?_
                    refine TL.pure (PV.assign rfl) rfl (by decide) ?_
                    refine TL.nil ?_
                    refine TQ.thenC ?_
                    refine TC.ret ?_
                    refine TQ.thenR ?_
                    refine TQ.retE1 rfl rfl ?_
                    first | exact ⟨(), rfl, trivial, List.nil_sublist _⟩ | exact ⟨(), by rw [decide_eq_true (himp (Decidable.of_not_not g15)).2.2.2], trivial, List.nil_sublist _⟩ | (exfalso; omega) | exact ⟨(), by simp; omega, trivial, List.nil_sublist _⟩ | (exfalso; simp_all; done) | (exfalso; simp_all; omega) | exact ⟨(), by simp, trivial, List.nil_sublist _⟩
                  · skip
                    refine TC.skip ?_
                    refine TQ.thenC ?_
                    refine TC.seqK [3, 4, 5, 10, 12] (X := Unit) (fun x => True) (fun x => []) (fun x => [(b5, .cells #[.int .i64 (mfA n rs), .int .i64 (mfB n rs)] 46 (0, 0)), (b2, .cells r.cells.toArray 61 (0, 0)), (b1, .cells #[.slice pn zs.length cn, .int .i64 ci, .int .i64 cj] 74 (0, 0)), (b0, .cells #[.int .i64 n, .slice p rs.length cap] 24 (0, 0))]) ?_ ?_
                    · skip
                      refine TC.seq ?_
                      refine TC.region ?_
                      refine TL.pure (PV.fieldAddr rfl Tb.fo_74_0) rfl (by decide) ?_
                      refine TL.pure (PV.load rfl Tb.one_31 (by repeat (first | exact List.Mem.head _ | refine List.Mem.tail _ ?_ | refine List.mem_append_right _ ?_)) rfl) rfl (by decide) ?_
                      refine TL.pure (PV.len rfl Tb.sl_31) rfl (by decide) ?_
                      refine TL.pure (PV.fieldAddr rfl Tb.fo_24_0) rfl (by decide) ?_
                      refine TL.pure (PV.load rfl Tb.one_3 (by repeat (first | exact List.Mem.head _ | refine List.Mem.tail _ ?_ | refine List.mem_append_right _ ?_)) rfl) rfl (by decide) ?_
                      refine TL.pure (PV.eql rfl rfl) rfl (by decide) ?_
                      refine TL.nil ?_
                      refine TQ.thenC ?_
                      first | refine TC.condD rfl (fun hlen => ?_) (fun hlen => ?_) | refine TC.cond rfl (fun hlen => ?_) (fun hlen => ?_)
                      · skip
                        refine TC.seq ?_
                        refine TC.region ?_
                        refine TL.pure (PV.assign rfl) rfl (by decide) ?_
                        refine TL.nil ?_
                        refine TQ.thenC ?_
                        refine TC.seq ?_
                        refine TC.seq ?_
                        refine TC.region ?_
                        refine TL.pure (PV.assign rfl) rfl (by decide) ?_
                        refine TL.nil ?_
                        refine TQ.thenC ?_
                        refine TC.block ?_
                        refine TC.lit [(3, _), (4, _), (5, _), (10, _), (12, _), (14, _), (15, _)] (by repeat (first | exact True.intro | refine And.intro rfl ?_)) ?_
                        refine TC.loopK [3, 4, 5, 6, 10, 12] (X := Nat × Bool) (fun c => c.1 ≤ zs.length ∧ (c.2 = true → ∀ j, j < c.1 → -4000 ≤ zs.getD j 0 ∧ zs.getD j 0 ≤ 4000)) (fun c => [(14, .bool c.2), (15, .int .i64 c.1)]) (fun c => [(b5, .cells #[.int .i64 (mfA n rs), .int .i64 (mfB n rs)] 46 (0, 0)), (b2, .cells r.cells.toArray 61 (0, 0)), (b1, .cells #[.slice pn zs.length cn, .int .i64 ci, .int .i64 cj] 74 (0, 0)), (b0, .cells #[.int .i64 n, .slice p rs.length cap] 24 (0, 0))]) (fun c => zs.length - c.1) (0, true) ⟨Nat.zero_le _, fun _ j hj => by simp at hj⟩ (by repeat (first | exact True.intro | refine And.intro rfl ?_)) (by repeat (first | exact List.Sublist.refl _ | refine List.Sublist.cons_cons _ ?_ | refine List.Sublist.cons _ ?_ | refine List.Sublist.trans ?_ (List.sublist_append_right _ _))) ?_
                        intro c hc
                        have hcl := hc.1
                        refine TC.seq ?_
                        refine TC.seq ?_
                        refine TC.region ?_
                        refine TL.pure (PV.move rfl) rfl (by decide) ?_
                        refine TL.pure (PV.fieldAddr rfl Tb.fo_74_0) rfl (by decide) ?_
                        refine TL.pure (PV.load rfl Tb.one_31 (by repeat (first | exact List.Mem.head _ | refine List.Mem.tail _ ?_ | refine List.mem_append_right _ ?_)) rfl) rfl (by decide) ?_
                        refine TL.pure (PV.len rfl Tb.sl_31) rfl (by decide) ?_
                        refine TL.pure (PV.lss rfl rfl) rfl (by decide) ?_
                        refine TL.nil ?_
                        refine TQ.thenC ?_
                        first | refine TC.condD rfl (fun hlt0 => ?_) (fun hlt0 => ?_) | refine TC.cond rfl (fun hlt0 => ?_) (fun hlt0 => ?_)
                        · skip
                          refine TC.skip ?_
                          refine TQ.thenC ?_
                          refine TC.seq ?_
                          refine TC.block ?_
                          obtain ⟨q, hqp, hq⟩ := hz c.1 (by omega)
                          refine TC.region ?_
                          refine TL.pure (PV.move rfl) rfl (by decide) ?_
                          refine TL.pure (PV.move rfl) rfl (by decide) ?_
                          first | refine TL.splitD 101 rfl (fun g5 => ?_) (fun g5 => ?_) | refine TL.split 101 rfl (fun g5 => ?_) (fun g5 => ?_)
                          · skip
                            refine TL.pure (PV.fieldAddr rfl Tb.fo_74_0) rfl (by decide) ?_
                            refine TL.pure (PV.load rfl Tb.one_31 (by repeat (first | exact List.Mem.head _ | refine List.Mem.tail _ ?_ | refine List.mem_append_right _ ?_)) rfl) rfl (by decide) ?_
                            refine TL.pure (PV.move rfl) rfl (by decide) ?_
                            refine TL.pure (PV.indexA rfl hqp rfl Tb.elm_31 rfl (by omega)) rfl (by decide) ?_
                            refine TL.pure (PV.loadOld rfl Tb.one_3 hq) rfl (by decide) ?_
                            refine TL.pure (PV.geq rfl rfl) rfl (by decide) ?_
                            refine TL.pure (PV.pickT rfl rfl) rfl (by decide) ?_
                            refine TL.pure (PV.move rfl) rfl (by decide) ?_
                            first | refine TL.splitD 109 rfl (fun g6 => ?_) (fun g6 => ?_) | refine TL.split 109 rfl (fun g6 => ?_) (fun g6 => ?_)
                            · skip
                              refine TL.pure (PV.fieldAddr rfl Tb.fo_74_0) rfl (by decide) ?_
                              refine TL.pure (PV.load rfl Tb.one_31 (by repeat (first | exact List.Mem.head _ | refine List.Mem.tail _ ?_ | refine List.mem_append_right _ ?_)) rfl) rfl (by decide) ?_
                              refine TL.pure (PV.move rfl) rfl (by decide) ?_
                              refine TL.pure (PV.indexA rfl hqp rfl Tb.elm_31 rfl (by omega)) rfl (by decide) ?_
                              refine TL.pure (PV.loadOld rfl Tb.one_3 hq) rfl (by decide) ?_
                              refine TL.pure (PV.leq rfl rfl) rfl (by decide) ?_
                              refine TL.pure (PV.pickT rfl rfl) rfl (by decide) ?_
                              refine TL.pure (PV.assign rfl) rfl (by decide) ?_
                              refine TL.nil ?_
                              refine TQ.blkN ?_
                              refine TQ.thenC ?_
                              refine TC.region ?_
                              refine TL.pure (PV.move rfl) rfl (by decide) ?_
                              refine TL.pure (PV.add rfl rfl (by omega)) rfl (by decide) ?_
                              refine TL.pure (PV.assign rfl) rfl (by decide) ?_
                              refine TL.nil ?_
                              refine TQ.thenN ?_
                              refine TQ.backK (c.1 + 1, _) (by repeat (first | exact True.intro | refine And.intro rfl ?_)) (by repeat (first | exact True.intro | refine And.intro rfl ?_)) (List.Sublist.refl _) ⟨by simp only; omega, fun hbb j hj => by first | exact Bool.noConfusion hbb | (exfalso; simp_all; done) | (have hj9 : j < c.1 + 1 := hj; have h8 : zs.getD c.1 0 ≤ 4000 := of_decide_eq_true hbb; rcases Nat.lt_or_ge j c.1 with h9 | h9; { exact hc.2 g5 j h9 }; { rw [show j = c.1 by omega]; exact ⟨g6, h8⟩ })⟩ (by simp only; omega)
                            · skip
                              refine TL.skip rfl (fun k hk => by cases hk; decide) ?_
                              refine TL.skip rfl (fun k hk => by cases hk; decide) ?_
                              refine TL.skip rfl (fun k hk => by cases hk; decide) ?_
                              refine TL.skip rfl (fun k hk => by cases hk; decide) ?_
                              refine TL.skip rfl (fun k hk => by cases hk; decide) ?_
                              refine TL.skip rfl (fun k hk => by cases hk; decide) ?_
                              refine TL.pure (PV.pickF rfl rfl) rfl (by decide) ?_
                              refine TL.pure (PV.assign rfl) rfl (by decide) ?_
                              refine TL.nil ?_
                              refine TQ.blkN ?_
                              refine TQ.thenC ?_
                              refine TC.region ?_
                              refine TL.pure (PV.move rfl) rfl (by decide) ?_
                              refine TL.pure (PV.add rfl rfl (by omega)) rfl (by decide) ?_
                              refine TL.pure (PV.assign rfl) rfl (by decide) ?_
                              refine TL.nil ?_
                              refine TQ.thenN ?_
                              refine TQ.backK (c.1 + 1, _) (by repeat (first | exact True.intro | refine And.intro rfl ?_)) (by repeat (first | exact True.intro | refine And.intro rfl ?_)) (List.Sublist.refl _) ⟨by simp only; omega, fun hbb j hj => by first | exact Bool.noConfusion hbb | (exfalso; simp_all; done) | (have hj9 : j < c.1 + 1 := hj; have h8 : zs.getD c.1 0 ≤ 4000 := of_decide_eq_true hbb; rcases Nat.lt_or_ge j c.1 with h9 | h9; { exact hc.2 g5 j h9 }; { rw [show j = c.1 by omega]; exact ⟨g6, h8⟩ })⟩ (by simp only; omega)
                          · skip
                            refine TL.skip rfl (fun k hk => by cases hk; decide) ?_
                            refine TL.skip rfl (fun k hk => by cases hk; decide) ?_
                            refine TL.skip rfl (fun k hk => by cases hk; decide) ?_
                            refine TL.skip rfl (fun k hk => by cases hk; decide) ?_
                            refine TL.skip rfl (fun k hk => by cases hk; decide) ?_
                            refine TL.skip rfl (fun k hk => by cases hk; decide) ?_
                            refine TL.pure (PV.pickF rfl rfl) rfl (by decide) ?_
                            refine TL.pure (PV.move rfl) rfl (by decide) ?_
                            refine TL.skip rfl (fun k hk => by cases hk; decide) ?_
                            refine TL.skip rfl (fun k hk => by cases hk; decide) ?_
                            refine TL.skip rfl (fun k hk => by cases hk; decide) ?_
                            refine TL.skip rfl (fun k hk => by cases hk; decide) ?_
                            refine TL.skip rfl (fun k hk => by cases hk; decide) ?_
                            refine TL.skip rfl (fun k hk => by cases hk; decide) ?_
                            refine TL.pure (PV.pickF rfl rfl) rfl (by decide) ?_
                            refine TL.pure (PV.assign rfl) rfl (by decide) ?_
                            refine TL.nil ?_
                            refine TQ.blkN ?_
                            refine TQ.thenC ?_
                            refine TC.region ?_
                            refine TL.pure (PV.move rfl) rfl (by decide) ?_
                            refine TL.pure (PV.add rfl rfl (by omega)) rfl (by decide) ?_
                            refine TL.pure (PV.assign rfl) rfl (by decide) ?_
                            refine TL.nil ?_
                            refine TQ.thenN ?_
                            refine TQ.backK (c.1 + 1, _) (by repeat (first | exact True.intro | refine And.intro rfl ?_)) (by repeat (first | exact True.intro | refine And.intro rfl ?_)) (List.Sublist.refl _) ⟨by simp only; omega, fun hbb j hj => by first | exact Bool.noConfusion hbb | (exfalso; simp_all; done) | (have hj9 : j < c.1 + 1 := hj; have h8 : zs.getD c.1 0 ≤ 4000 := of_decide_eq_true hbb; rcases Nat.lt_or_ge j c.1 with h9 | h9; { exact hc.2 g5 j h9 }; { rw [show j = c.1 by omega]; exact ⟨g6, h8⟩ })⟩ (by simp only; omega)
                        · skip
                          refine TC.exit ?_
                          refine TQ.thenE ?_
                          refine TQ.thenE ?_
                          refine TQ.blkS ?_
                          refine TQ.thenC ?_
                          refine TC.seq ?_
                          refine TC.region ?_
                          refine TL.pure (PV.assign rfl) rfl (by decide) ?_
                          refine TL.nil ?_
                          refine TQ.thenC ?_
                          refine TC.seq ?_
                          refine TC.seq ?_
                          refine TC.region ?_
                          refine TL.pure (PV.assign rfl) rfl (by decide) ?_
                          refine TL.nil ?_
                          refine TQ.thenC ?_
                          refine TC.block ?_
                          refine TC.lit [(3, _), (4, _), (5, _), (10, _), (12, _), (14, _), (16, _), (17, _)] (by repeat (first | exact True.intro | refine And.intro rfl ?_)) ?_
                          have hcb : c.2 = true → ∀ j, j < zs.length → -4000 ≤ zs.getD j 0 ∧ zs.getD j 0 ≤ 4000 := fun hb j hj => hc.2 hb j (by omega)
                          refine TC.loopK [3, 4, 5, 6, 10, 12, 14] (X := Nat) (fun k => k ≤ rs.length) (fun k => [(16, .int .i64 (mS rs (gz c.2 zs rs) k)), (17, .int .i64 k)]) (fun k => [(b5, .cells #[.int .i64 (mfA n rs), .int .i64 (mfB n rs)] 46 (0, 0)), (b2, .cells r.cells.toArray 61 (0, 0)), (b1, .cells #[.slice pn zs.length cn, .int .i64 ci, .int .i64 cj] 74 (0, 0)), (b0, .cells #[.int .i64 n, .slice p rs.length cap] 24 (0, 0))]) (fun k => rs.length - k) 0 (Nat.zero_le _) (by repeat (first | exact True.intro | refine And.intro rfl ?_)) (List.Sublist.refl _) ?_
                          intro k hk
                          refine TC.seq ?_
                          refine TC.seq ?_
                          refine TC.region ?_
                          refine TL.pure (PV.move rfl) rfl (by decide) ?_
                          refine TL.pure (PV.fieldAddr rfl Tb.fo_24_1) rfl (by decide) ?_
                          refine TL.pure (PV.load rfl Tb.one_22 (by repeat (first | exact List.Mem.head _ | refine List.Mem.tail _ ?_ | refine List.mem_append_right _ ?_)) rfl) rfl (by decide) ?_
                          refine TL.pure (PV.len rfl Tb.sl_22) rfl (by decide) ?_
                          refine TL.pure (PV.lss rfl rfl) rfl (by decide) ?_
                          refine TL.nil ?_
                          refine TQ.thenC ?_
                          first | refine TC.condD rfl (fun hlt1 => ?_) (fun hlt1 => ?_) | refine TC.cond rfl (fun hlt1 => ?_) (fun hlt1 => ?_)
                          · skip
                            refine TC.skip ?_
                            refine TQ.thenC ?_
                            refine TC.seq ?_
                            refine TC.block ?_
                            refine TC.seq ?_
                            refine TC.lit [(3, _), (4, _), (5, _), (10, _), (12, _), (14, _), (16, _), (17, _)] (by repeat (first | exact True.intro | refine And.intro rfl ?_)) ?_
                            have hkl : k < rs.length := by omega
                            obtain ⟨q, hqp, hqa⟩ := hr k hkl
                            have hq0 := hqa 0 _ rfl
                            have hq1 := hqa 1 _ rfl
                            have hq2 := hqa 2 _ rfl
                            have hq3 := hqa 3 _ rfl
                            have hvk := hv.at hkl
                            have hin := rd_in hv hkl
                            have hgb := gz_bn hv hcb k hkl
                            have hgs := mS_bn hv (fun k hk => (gz_bn hv hcb k hk).mono (by omega)) k (by omega)
                            have hst : mS rs (gz c.2 zs rs) (k + 1) = mS rs (gz c.2 zs rs) k + (rs.getD k default).wt * gz c.2 zs rs k * gz c.2 zs rs k := rfl
                            have hge : gz c.2 zs rs k = (rs.getD k default).rise * 1 - (zz c.2 zs (rs.getD k default).t - zz c.2 zs (rs.getD k default).f) := rfl
                            have hw3 := (show Bn (rs.getD k default).wt 3 from ⟨by omega, by omega⟩).mul hgb
                            have hw4 := hw3.mul hgb
                            unfold Bn at hgb hgs hw3 hw4
                            refine TC.region ?_
                            refine TL.pure (PV.fieldAddr rfl Tb.fo_24_1) rfl (by decide) ?_
                            refine TL.pure (PV.load rfl Tb.one_22 (by repeat (first | exact List.Mem.head _ | refine List.Mem.tail _ ?_ | refine List.mem_append_right _ ?_)) rfl) rfl (by decide) ?_
                            refine TL.pure (PV.move rfl) rfl (by decide) ?_
                            refine TL.pure (PV.indexA rfl hqp rfl Tb.elm_22 rfl (by omega)) rfl (by decide) ?_
                            refine TL.pure (PV.fieldAddrA rfl Tb.fo_61_2) rfl (by decide) ?_
                            refine TL.pure (PV.loadOld rfl Tb.one_3 hq2) rfl (by decide) ?_
                            refine TL.pure (PV.assign rfl) rfl (by decide) ?_
                            refine TL.nil ?_
                            refine TQ.thenC ?_
                            refine TC.seq ?_
                            refine TC.seq ?_
                            refine TC.region ?_
                            refine TL.pure (PV.move rfl) rfl (by decide) ?_
                            refine TL.nil ?_
                            refine TQ.thenC ?_
                            first | refine TC.condD rfl (fun hb => ?_) (fun hb => ?_) | refine TC.cond rfl (fun hb => ?_) (fun hb => ?_)
                            · skip
                              obtain ⟨qt, htp, ht⟩ := hz (rs.getD k default).to.toNat (by omega)
                              obtain ⟨qf, hfp, hf⟩ := hz (rs.getD k default).fr.toNat (by omega)
                              have zt : zz c.2 zs (rs.getD k default).t = zs.getD (rs.getD k default).to.toNat 0 := if_pos hb
                              have zf : zz c.2 zs (rs.getD k default).f = zs.getD (rs.getD k default).fr.toNat 0 := if_pos hb
                              have bt := zz_bn hcb (rs.getD k default).t
                              have bf := zz_bn hcb (rs.getD k default).f
                              have hrise := hvk.2.2.2.1
                              refine TC.draw 23 Tb.mixed (by kernel_rfl) ?_
                              simp only [List.take_succ_cons, List.take_zero, List.drop_succ_cons, List.drop_zero]
                              refine TS.pure (PV.move rfl) rfl (by decide) ?_
                              refine TS.pure (PV.fieldAddr rfl Tb.fo_74_0) rfl (by decide) ?_
                              refine TS.pure (PV.load rfl Tb.one_31 (by repeat (first | exact List.Mem.head _ | refine List.Mem.tail _ ?_ | refine List.mem_append_right _ ?_)) rfl) rfl (by decide) ?_
                              refine TS.pure (PV.fieldAddr rfl Tb.fo_24_1) rfl (by decide) ?_
                              refine TS.pure (PV.load rfl Tb.one_22 (by repeat (first | exact List.Mem.head _ | refine List.Mem.tail _ ?_ | refine List.mem_append_right _ ?_)) rfl) rfl (by decide) ?_
                              refine TS.pure (PV.move rfl) rfl (by decide) ?_
                              refine TS.pure (PV.indexA rfl hqp rfl Tb.elm_22 rfl (by omega)) rfl (by decide) ?_
                              refine TS.pure (PV.fieldAddrA rfl Tb.fo_61_1) rfl (by decide) ?_
                              refine TS.pure (PV.loadOld rfl Tb.one_3 hq1) rfl (by decide) ?_
                              refine TS.pure (PV.indexA rfl htp rfl Tb.elm_31 (Int.toNat_of_nonneg (by omega)).symm (by omega)) rfl (by decide) ?_
                              refine TS.pure (PV.loadOld rfl Tb.one_3 ht) rfl (by decide) ?_
                              refine TS.pure (PV.sub rfl rfl (by omega)) rfl (by decide) ?_
                              refine TS.pure (PV.fieldAddr rfl Tb.fo_74_0) rfl (by decide) ?_
                              refine TS.pure (PV.load rfl Tb.one_31 (by repeat (first | exact List.Mem.head _ | refine List.Mem.tail _ ?_ | refine List.mem_append_right _ ?_)) rfl) rfl (by decide) ?_
                              refine TS.pure (PV.fieldAddr rfl Tb.fo_24_1) rfl (by decide) ?_
                              refine TS.pure (PV.load rfl Tb.one_22 (by repeat (first | exact List.Mem.head _ | refine List.Mem.tail _ ?_ | refine List.mem_append_right _ ?_)) rfl) rfl (by decide) ?_
                              refine TS.pure (PV.move rfl) rfl (by decide) ?_
                              refine TS.pure (PV.indexA rfl hqp rfl Tb.elm_22 rfl (by omega)) rfl (by decide) ?_
                              refine TS.pure (PV.fieldAddrA rfl Tb.fo_61_0) rfl (by decide) ?_
                              refine TS.pure (PV.loadOld rfl Tb.one_3 hq0) rfl (by decide) ?_
                              refine TS.pure (PV.indexA rfl hfp rfl Tb.elm_31 (Int.toNat_of_nonneg (by omega)).symm (by omega)) rfl (by decide) ?_
                              refine TS.pure (PV.loadOld rfl Tb.one_3 hf) rfl (by decide) ?_
                              refine TS.pure (PV.add rfl rfl (by omega)) rfl (by decide) ?_
                              refine TS.nil ?_
                              refine TL.pure (PV.assign rfl) rfl (by decide) ?_
                              refine TL.nil ?_
                              refine TQ.thenC ?_
                              first | rw [show (rs.getD k default).rise - zs.getD (rs.getD k default).to.toNat 0 + zs.getD (rs.getD k default).fr.toNat 0 = gz c.2 zs rs k from by omega] | rw [show (rs.getD k default).rise = gz c.2 zs rs k from by (have e1 : zz c.2 zs (rs.getD k default).t = 0 := if_neg (by simp [hb]); have e2 : zz c.2 zs (rs.getD k default).f = 0 := if_neg (by simp [hb]); omega)]
                              refine TC.region ?_
                              refine TL.pure (PV.move rfl) rfl (by decide) ?_
                              refine TL.pure (PV.fieldAddr rfl Tb.fo_24_1) rfl (by decide) ?_
                              refine TL.pure (PV.load rfl Tb.one_22 (by repeat (first | exact List.Mem.head _ | refine List.Mem.tail _ ?_ | refine List.mem_append_right _ ?_)) rfl) rfl (by decide) ?_
                              refine TL.pure (PV.move rfl) rfl (by decide) ?_
                              refine TL.pure (PV.indexA rfl hqp rfl Tb.elm_22 rfl (by omega)) rfl (by decide) ?_
                              refine TL.pure (PV.fieldAddrA rfl Tb.fo_61_3) rfl (by decide) ?_
                              refine TL.pure (PV.loadOld rfl Tb.one_3 hq3) rfl (by decide) ?_
                              refine TL.pure (PV.move rfl) rfl (by decide) ?_
                              refine TL.pure (PV.mul rfl rfl (by omega)) rfl (by decide) ?_
                              refine TL.pure (PV.move rfl) rfl (by decide) ?_
                              refine TL.pure (PV.mul rfl rfl (by omega)) rfl (by decide) ?_
                              refine TL.pure (PV.add rfl rfl (by omega)) rfl (by decide) ?_
                              refine TL.pure (PV.assign rfl) rfl (by decide) ?_
                              refine TL.nil ?_
                              refine TQ.blkN ?_
                              refine TQ.thenC ?_
                              refine TC.region ?_
                              refine TL.pure (PV.move rfl) rfl (by decide) ?_
                              refine TL.pure (PV.add rfl rfl (by omega)) rfl (by decide) ?_
                              refine TL.pure (PV.assign rfl) rfl (by decide) ?_
                              refine TL.nil ?_
                              refine TQ.thenN ?_
                              refine TQ.backK (k + 1) ⟨by rw [hst]; first | rfl | (simp only [hge]; congr; omega), rfl, trivial⟩ (by repeat (first | exact True.intro | refine And.intro rfl ?_)) (List.Sublist.refl _) (by omega) (by omega)
                            · skip
                              refine TC.skip ?_
                              refine TQ.thenC ?_
                              first | rw [show (rs.getD k default).rise - zs.getD (rs.getD k default).to.toNat 0 + zs.getD (rs.getD k default).fr.toNat 0 = gz c.2 zs rs k from by omega] | rw [show (rs.getD k default).rise = gz c.2 zs rs k from by (have e1 : zz c.2 zs (rs.getD k default).t = 0 := if_neg (by simp [hb]); have e2 : zz c.2 zs (rs.getD k default).f = 0 := if_neg (by simp [hb]); omega)]
                              refine TC.region ?_
                              refine TL.pure (PV.move rfl) rfl (by decide) ?_
                              refine TL.pure (PV.fieldAddr rfl Tb.fo_24_1) rfl (by decide) ?_
                              refine TL.pure (PV.load rfl Tb.one_22 (by repeat (first | exact List.Mem.head _ | refine List.Mem.tail _ ?_ | refine List.mem_append_right _ ?_)) rfl) rfl (by decide) ?_
                              refine TL.pure (PV.move rfl) rfl (by decide) ?_
                              refine TL.pure (PV.indexA rfl hqp rfl Tb.elm_22 rfl (by omega)) rfl (by decide) ?_
                              refine TL.pure (PV.fieldAddrA rfl Tb.fo_61_3) rfl (by decide) ?_
                              refine TL.pure (PV.loadOld rfl Tb.one_3 hq3) rfl (by decide) ?_
                              refine TL.pure (PV.move rfl) rfl (by decide) ?_
                              refine TL.pure (PV.mul rfl rfl (by omega)) rfl (by decide) ?_
                              refine TL.pure (PV.move rfl) rfl (by decide) ?_
                              refine TL.pure (PV.mul rfl rfl (by omega)) rfl (by decide) ?_
                              refine TL.pure (PV.add rfl rfl (by omega)) rfl (by decide) ?_
                              refine TL.pure (PV.assign rfl) rfl (by decide) ?_
                              refine TL.nil ?_
                              refine TQ.blkN ?_
                              refine TQ.thenC ?_
                              refine TC.region ?_
                              refine TL.pure (PV.move rfl) rfl (by decide) ?_
                              refine TL.pure (PV.add rfl rfl (by omega)) rfl (by decide) ?_
                              refine TL.pure (PV.assign rfl) rfl (by decide) ?_
                              refine TL.nil ?_
                              refine TQ.thenN ?_
                              refine TQ.backK (k + 1) ⟨by rw [hst]; first | rfl | (simp only [hge]; congr; omega), rfl, trivial⟩ (by repeat (first | exact True.intro | refine And.intro rfl ?_)) (List.Sublist.refl _) (by omega) (by omega)
                          · skip
                            refine TC.exit ?_
                            refine TQ.thenE ?_
                            refine TQ.thenE ?_
                            refine TQ.blkS ?_
                            refine TQ.thenC ?_
                            refine TC.seq ?_
                            have hkk : k = rs.length := by omega
                            subst hkk
                            have hle := mf_le hv (zz c.2 zs) (g := gz c.2 zs rs) (fun k _ => rfl)
                            have hql := quo_le m1 (show 0 < mfB n rs by omega) hle
                            have tm1 := Int.tmod_nonneg (mfB n rs) m1
                            have tm2 := Int.tmod_lt_of_pos (mfA n rs) (show 0 < mfB n rs by omega)
                            refine TC.region ?_
                            refine TL.pure (PV.fieldAddr rfl Tb.fo_46_0) rfl (by decide) ?_
                            refine TL.pure (PV.load rfl Tb.one_3 (by repeat (first | exact List.Mem.head _ | refine List.Mem.tail _ ?_ | refine List.mem_append_right _ ?_)) rfl) rfl (by decide) ?_
                            refine TL.pure (PV.fieldAddr rfl Tb.fo_46_1) rfl (by decide) ?_
                            refine TL.pure (PV.load rfl Tb.one_3 (by repeat (first | exact List.Mem.head _ | refine List.Mem.tail _ ?_ | refine List.mem_append_right _ ?_)) rfl) rfl (by decide) ?_
                            refine TL.pure (PV.quo rfl rfl (by omega) (by omega)) rfl (by decide) ?_
                            refine TL.pure (PV.move rfl) rfl (by decide) ?_
                            refine TL.pure (PV.gtr rfl rfl) rfl (by decide) ?_
                            refine TL.pure (PV.move rfl) rfl (by decide) ?_
                            first | refine TL.splitD 173 rfl (fun g7 => ?_) (fun g7 => ?_) | refine TL.split 173 rfl (fun g7 => ?_) (fun g7 => ?_)
                            · skip
                              refine TL.skip rfl (fun k hk => by cases hk; decide) ?_
                              refine TL.skip rfl (fun k hk => by cases hk; decide) ?_
                              refine TL.skip rfl (fun k hk => by cases hk; decide) ?_
                              refine TL.skip rfl (fun k hk => by cases hk; decide) ?_
                              refine TL.skip rfl (fun k hk => by cases hk; decide) ?_
                              refine TL.skip rfl (fun k hk => by cases hk; decide) ?_
                              refine TL.skip rfl (fun k hk => by cases hk; decide) ?_
                              refine TL.skip rfl (fun k hk => by cases hk; decide) ?_
                              refine TL.skipU rfl (fun k hk => by cases hk; decide) ?_
                              refine TL.skipU rfl (fun k hk => by cases hk; decide) ?_
                              refine TL.skipU rfl (fun k hk => by cases hk; decide) ?_
                              refine TL.skipU rfl (fun k hk => by cases hk; decide) ?_
                              refine TL.skipU rfl (fun k hk => by cases hk; decide) ?_
                              refine TL.skipU rfl (fun k hk => by cases hk; decide) ?_
                              refine TL.skip rfl (fun k hk => by cases hk; decide) ?_
                              refine TL.pure (PV.pickT rfl rfl) rfl (by decide) ?_
                              refine TL.nil ?_
                              refine TQ.thenC ?_
                              refine TC.condT rfl ?_
                              refine TC.seq ?_
                              refine TC.region ?_
                              refine TL.pure (PV.assign rfl) rfl (by decide) ?_
                              refine TL.nil ?_
                              refine TQ.thenC ?_
                              refine TC.ret ?_
                              refine TQ.thenR ?_
                              refine TQ.retE1 rfl rfl ?_
                              first | exact ⟨(), rfl, trivial, List.nil_sublist _⟩ | exact ⟨(), by rw [decide_eq_true (himp (Decidable.of_not_not g15)).2.2.2], trivial, List.nil_sublist _⟩ | (exfalso; omega) | exact ⟨(), by simp; omega, trivial, List.nil_sublist _⟩ | (exfalso; simp_all; done) | (exfalso; simp_all; omega) | exact ⟨(), by simp, trivial, List.nil_sublist _⟩
                            · skip
                              refine TL.pure (PV.fieldAddr rfl Tb.fo_46_0) rfl (by decide) ?_
                              refine TL.pure (PV.load rfl Tb.one_3 (by repeat (first | exact List.Mem.head _ | refine List.Mem.tail _ ?_ | refine List.mem_append_right _ ?_)) rfl) rfl (by decide) ?_
                              refine TL.pure (PV.fieldAddr rfl Tb.fo_46_1) rfl (by decide) ?_
                              refine TL.pure (PV.load rfl Tb.one_3 (by repeat (first | exact List.Mem.head _ | refine List.Mem.tail _ ?_ | refine List.mem_append_right _ ?_)) rfl) rfl (by decide) ?_
                              refine TL.pure (PV.quo rfl rfl (by omega) (by omega)) rfl (by decide) ?_
                              refine TL.pure (PV.move rfl) rfl (by decide) ?_
                              refine TL.pure (PV.eql rfl rfl) rfl (by decide) ?_
                              refine TL.pure (PV.move rfl) rfl (by decide) ?_
                              first | refine TL.splitD 181 rfl (fun g8 => ?_) (fun g8 => ?_) | refine TL.split 181 rfl (fun g8 => ?_) (fun g8 => ?_)
                              · skip
                                refine TL.pure (PV.fieldAddr rfl Tb.fo_46_0) rfl (by decide) ?_
                                refine TL.pure (PV.load rfl Tb.one_3 (by repeat (first | exact List.Mem.head _ | refine List.Mem.tail _ ?_ | refine List.mem_append_right _ ?_)) rfl) rfl (by decide) ?_
                                refine TL.pure (PV.fieldAddr rfl Tb.fo_46_1) rfl (by decide) ?_
                                refine TL.pure (PV.load rfl Tb.one_3 (by repeat (first | exact List.Mem.head _ | refine List.Mem.tail _ ?_ | refine List.mem_append_right _ ?_)) rfl) rfl (by decide) ?_
                                refine TL.pure (PV.rem rfl rfl (by omega) (by omega)) rfl (by decide) ?_
                                refine TL.pure (PV.gtr rfl rfl) rfl (by decide) ?_
                                refine TL.pure (PV.pickT rfl rfl) rfl (by decide) ?_
                                refine TL.pure (PV.pickF rfl rfl) rfl (by decide) ?_
                                refine TL.nil ?_
                                refine TQ.thenC ?_
                                first | refine TC.condD rfl (fun hq9 => ?_) (fun hq9 => ?_) | refine TC.cond rfl (fun hq9 => ?_) (fun hq9 => ?_)
                                · skip
                                  refine TC.seq ?_
                                  refine TC.region ?_
                                  refine TL.pure (PV.assign rfl) rfl (by decide) ?_
                                  refine TL.nil ?_
                                  refine TQ.thenC ?_
                                  refine TC.ret ?_
                                  refine TQ.thenR ?_
                                  refine TQ.retE1 rfl rfl ?_
                                  first | exact ⟨(), rfl, trivial, List.nil_sublist _⟩ | exact ⟨(), by rw [decide_eq_true (himp (Decidable.of_not_not g15)).2.2.2], trivial, List.nil_sublist _⟩ | (exfalso; omega) | exact ⟨(), by simp; omega, trivial, List.nil_sublist _⟩ | (exfalso; simp_all; done) | (exfalso; simp_all; omega) | exact ⟨(), by simp, trivial, List.nil_sublist _⟩
                                · skip
                                  refine TC.skip ?_
                                  refine TQ.thenN ?_
                                  refine TQ.midK () (by repeat (first | exact True.intro | refine And.intro rfl ?_)) (by repeat (first | exact True.intro | refine And.intro rfl ?_)) (by repeat (first | exact List.Sublist.refl _ | refine List.Sublist.cons_cons _ ?_ | refine List.Sublist.cons _ ?_ | refine List.Sublist.trans ?_ (List.sublist_append_right _ _))) (by first | trivial | omega)
                              · skip
                                refine TL.skip rfl (fun k hk => by cases hk; decide) ?_
                                refine TL.skip rfl (fun k hk => by cases hk; decide) ?_
                                refine TL.skip rfl (fun k hk => by cases hk; decide) ?_
                                refine TL.skip rfl (fun k hk => by cases hk; decide) ?_
                                refine TL.skip rfl (fun k hk => by cases hk; decide) ?_
                                refine TL.skip rfl (fun k hk => by cases hk; decide) ?_
                                refine TL.pure (PV.pickF rfl rfl) rfl (by decide) ?_
                                refine TL.pure (PV.pickF rfl rfl) rfl (by decide) ?_
                                refine TL.nil ?_
                                refine TQ.thenC ?_
                                refine TC.condF rfl ?_
                                refine TC.skip ?_
                                refine TQ.thenN ?_
                                refine TQ.midK () (by repeat (first | exact True.intro | refine And.intro rfl ?_)) (by repeat (first | exact True.intro | refine And.intro rfl ?_)) (by repeat (first | exact List.Sublist.refl _ | refine List.Sublist.cons_cons _ ?_ | refine List.Sublist.cons _ ?_ | refine List.Sublist.trans ?_ (List.sublist_append_right _ _))) (by first | trivial | omega)
                      · skip
                        refine TC.skip ?_
                        refine TQ.thenN ?_
                        refine TQ.midK () (by repeat (first | exact True.intro | refine And.intro rfl ?_)) (by repeat (first | exact True.intro | refine And.intro rfl ?_)) (by repeat (first | exact List.Sublist.refl _ | refine List.Sublist.cons_cons _ ?_ | refine List.Sublist.cons _ ?_ | refine List.Sublist.trans ?_ (List.sublist_append_right _ _))) (by first | trivial | omega)
                    · skip
                      intro _ _
                      refine TC.seq ?_
                      refine TC.lit [(3, _), (4, _), (5, _), (10, _), (12, _)] (by repeat (first | exact True.intro | refine And.intro rfl ?_)) ?_
                      have hzz := s_zero hv.nat.1
                      refine TC.region ?_
                      refine TL.pure (PV.build rfl Tb.zero_46 Tb.pl_46 (fill_r _ _)) rfl (by decide) ?_
                      refine TL.alloc Tb.zero_46 rfl (by decide) (fun b6 hb6 => ?_)
                      refine TL.storeAgg rfl rfl Tb.cells_46 (by repeat (first | exact Upd.head _ | apply Upd.tail | apply Upd.appR)) rfl rfl rfl rfl rfl ?_
                      refine TL.nil ?_
                      refine TQ.thenC ?_
                      refine TC.seq ?_
                      refine TC.seq ?_
                      refine TC.region ?_
                      refine TL.pure (PV.assign rfl) rfl (by decide) ?_
                      refine TL.nil ?_
                      refine TQ.thenC ?_
                      refine TC.block ?_
                      -- live and written in the loop, not told: [6]
                      refine TC.lit [(3, _), (4, _), (5, _), (10, _), (12, _), (19, _), (20, _)] (by repeat (first | exact True.intro | refine And.intro rfl ?_)) ?_
                      refine TC.loopK [3, 4, 5, 10, 12, 19] (X := Nat) (fun k => k ≤ rs.length) (fun k => [(20, .int .i64 k)]) (fun k => (b6, Obj.cells #[.int .i64 (sN n.toNat rs k), .int .i64 (sD n.toNat rs k)] 46 (0, 0)) :: [(b5, .cells #[.int .i64 (mfA n rs), .int .i64 (mfB n rs)] 46 (0, 0)), (b2, .cells r.cells.toArray 61 (0, 0)), (b1, .cells #[.slice pn zs.length cn, .int .i64 ci, .int .i64 cj] 74 (0, 0)), (b0, .cells #[.int .i64 n, .slice p rs.length cap] 24 (0, 0))]) (fun k => rs.length - k) 0 (Nat.zero_le _) (by repeat (first | exact True.intro | refine And.intro rfl ?_)) (by rw [hzz.1, hzz.2]; exact List.Sublist.refl _) ?_
                      intro k hk
                      refine TC.seq ?_
                      refine TC.seq ?_
                      refine TC.region ?_
                      refine TL.pure (PV.move rfl) rfl (by decide) ?_
                      refine TL.pure (PV.fieldAddr rfl Tb.fo_24_1) rfl (by decide) ?_
                      refine TL.pure (PV.load rfl Tb.one_22 (by repeat (first | exact List.Mem.head _ | refine List.Mem.tail _ ?_ | refine List.mem_append_right _ ?_)) rfl) rfl (by decide) ?_
                      refine TL.pure (PV.len rfl Tb.sl_22) rfl (by decide) ?_
                      refine TL.pure (PV.lss rfl rfl) rfl (by decide) ?_
                      refine TL.nil ?_
                      refine TQ.thenC ?_
                      first | refine TC.condD rfl (fun hlt => ?_) (fun hlt => ?_) | refine TC.cond rfl (fun hlt => ?_) (fun hlt => ?_)
                      · skip
                        refine TC.skip ?_
                        refine TQ.thenC ?_
                        refine TC.seq ?_
                        refine TC.block ?_
                        refine TC.seq ?_
                        refine TC.region ?_
                        refine TL.pure (PV.loadBox rfl Tb.agg_24 (by repeat (first | exact List.Mem.head _ | refine List.Mem.tail _ ?_ | refine List.mem_append_right _ ?_)) rfl) rfl (by decide) ?_
                        refine TL.pure (PV.move rfl) rfl (by decide) ?_
                        refine TL.call rfl Tb.gofn_46 (fun a w hs => share_ok w _ _ _ _ (hr.new hs.new) _) rfl (by decide) (fun _ _ => ?_)
                        refine TL.pure (PV.move rfl) rfl (by decide) ?_
                        refine TL.pure (PV.extract rfl rfl) rfl (by decide) ?_
                        refine TL.pure (PV.extract rfl rfl) rfl (by decide) ?_
                        refine TL.alloc Tb.zero_46 rfl (by decide) (fun b7 hb7 => ?_)
                        refine TL.storeAgg rfl rfl Tb.cells_46 (by repeat (first | exact Upd.head _ | apply Upd.tail | apply Upd.appR)) rfl rfl rfl rfl rfl ?_
                        refine TL.pure (PV.assign rfl) rfl (by decide) ?_
                        refine TL.nil ?_
                        refine TQ.thenC ?_
                        refine TC.seq ?_
                        refine TC.seq ?_
                        have hkl : k < rs.length := by omega
                        have hE := shE_at hv hkl
                        obtain ⟨ga, a⟩ := shIs hE
                        obtain ⟨gb, b⟩ := sIs hv.nat.1 (k := k) (by omega)
                        have a1 := a.dpos
                        have a2 := a.dle
                        have b1_ := b.dpos
                        have b2_ := b.dle
                        have m1_ := b.nb.mul (show Bn (shD n rs (k : Int)) 331776 from ⟨by omega, by omega⟩)
                        have m2_ := a.nb.mul (show Bn (sD n.toNat rs k) 331776 from ⟨by omega, by omega⟩)
                        have m3_ := (show Bn (sD n.toNat rs k) 331776 from ⟨by omega, by omega⟩).mul (show Bn (shD n rs (k : Int)) 331776 from ⟨by omega, by omega⟩)
                        unfold Bn at m1_ m2_ m3_
                        refine TC.region ?_
                        refine TL.pure (PV.move rfl) rfl (by decide) ?_
                        refine TL.pure (PV.neq rfl rfl) rfl (by decide) ?_
                        refine TL.pure (PV.move rfl) rfl (by decide) ?_
                        first | refine TL.splitD 206 rfl (fun h19 => ?_) (fun h19 => ?_) | refine TL.split 206 rfl (fun h19 => ?_) (fun h19 => ?_)
                        · skip
                          refine TL.skip rfl (fun k hk => by cases hk; decide) ?_
                          refine TL.skip rfl (fun k hk => by cases hk; decide) ?_
                          refine TL.skip rfl (fun k hk => by cases hk; decide) ?_
                          refine TL.pure (PV.pickT rfl rfl) rfl (by decide) ?_
                          refine TL.pure (PV.move rfl) rfl (by decide) ?_
                          refine TL.skip rfl (fun k hk => by cases hk; decide) ?_
                          refine TL.skip rfl (fun k hk => by cases hk; decide) ?_
                          refine TL.skip rfl (fun k hk => by cases hk; decide) ?_
                          refine TL.pure (PV.pickT rfl rfl) rfl (by decide) ?_
                          refine TL.pure (PV.move rfl) rfl (by decide) ?_
                          refine TL.skip rfl (fun k hk => by cases hk; decide) ?_
                          refine TL.skip rfl (fun k hk => by cases hk; decide) ?_
                          refine TL.skip rfl (fun k hk => by cases hk; decide) ?_
                          refine TL.pure (PV.pickT rfl rfl) rfl (by decide) ?_
                          refine TL.nil ?_
                          refine TQ.thenC ?_
                          refine TC.condT rfl ?_
                          refine TC.seq ?_
                          refine TC.region ?_
                          refine TL.pure (PV.assign rfl) rfl (by decide) ?_
                          refine TL.nil ?_
                          refine TQ.thenC ?_
                          refine TC.ret ?_
                          refine TQ.thenR ?_
                          refine TQ.blkR ?_
                          refine TQ.thenR ?_
                          refine TQ.thenR ?_
                          refine TQ.blkR ?_
                          refine TQ.thenR ?_
                          refine TQ.retE1 rfl rfl ?_
                          first | exact ⟨(), rfl, trivial, List.nil_sublist _⟩ | exact ⟨(), by rw [decide_eq_true (himp (Decidable.of_not_not g15)).2.2.2], trivial, List.nil_sublist _⟩ | (exfalso; omega) | exact ⟨(), by simp; omega, trivial, List.nil_sublist _⟩ | (exfalso; simp_all; done) | (exfalso; simp_all; omega) | exact ⟨(), by simp, trivial, List.nil_sublist _⟩
                        · skip
                          refine TL.pure (PV.fieldAddr rfl Tb.fo_46_1) rfl (by decide) ?_
                          refine TL.pure (PV.load rfl Tb.one_3 (by repeat (first | exact List.Mem.head _ | refine List.Mem.tail _ ?_ | refine List.mem_append_right _ ?_)) rfl) rfl (by decide) ?_
                          refine TL.pure (PV.lss rfl rfl) rfl (by decide) ?_
                          refine TL.pure (PV.pickF rfl rfl) rfl (by decide) ?_
                          refine TL.pure (PV.move rfl) rfl (by decide) ?_
                          first | refine TL.splitD 211 rfl (fun h20 => ?_) (fun h20 => ?_) | refine TL.split 211 rfl (fun h20 => ?_) (fun h20 => ?_)
                          · skip
                            refine TL.skip rfl (fun k hk => by cases hk; decide) ?_
                            refine TL.skip rfl (fun k hk => by cases hk; decide) ?_
                            refine TL.skip rfl (fun k hk => by cases hk; decide) ?_
                            refine TL.pure (PV.pickT rfl rfl) rfl (by decide) ?_
                            refine TL.pure (PV.move rfl) rfl (by decide) ?_
                            refine TL.skip rfl (fun k hk => by cases hk; decide) ?_
                            refine TL.skip rfl (fun k hk => by cases hk; decide) ?_
                            refine TL.skip rfl (fun k hk => by cases hk; decide) ?_
                            refine TL.pure (PV.pickT rfl rfl) rfl (by decide) ?_
                            refine TL.nil ?_
                            refine TQ.thenC ?_
                            refine TC.condT rfl ?_
                            refine TC.seq ?_
                            refine TC.region ?_
                            refine TL.pure (PV.assign rfl) rfl (by decide) ?_
                            refine TL.nil ?_
                            refine TQ.thenC ?_
                            refine TC.ret ?_
                            refine TQ.thenR ?_
                            refine TQ.blkR ?_
                            refine TQ.thenR ?_
                            refine TQ.thenR ?_
                            refine TQ.blkR ?_
                            refine TQ.thenR ?_
                            refine TQ.retE1 rfl rfl ?_
                            first | exact ⟨(), rfl, trivial, List.nil_sublist _⟩ | exact ⟨(), by rw [decide_eq_true (himp (Decidable.of_not_not g15)).2.2.2], trivial, List.nil_sublist _⟩ | (exfalso; omega) | exact ⟨(), by simp; omega, trivial, List.nil_sublist _⟩ | (exfalso; simp_all; done) | (exfalso; simp_all; omega) | exact ⟨(), by simp, trivial, List.nil_sublist _⟩
                          · skip
                            refine TL.pure (PV.fieldAddr rfl Tb.fo_46_1) rfl (by decide) ?_
                            refine TL.pure (PV.load rfl Tb.one_3 (by repeat (first | exact List.Mem.head _ | refine List.Mem.tail _ ?_ | refine List.mem_append_right _ ?_)) rfl) rfl (by decide) ?_
                            refine TL.pure (PV.gtr rfl rfl) rfl (by decide) ?_
                            refine TL.pure (PV.pickF rfl rfl) rfl (by decide) ?_
                            refine TL.pure (PV.move rfl) rfl (by decide) ?_
                            first | refine TL.splitD 216 rfl (fun h21 => ?_) (fun h21 => ?_) | refine TL.split 216 rfl (fun h21 => ?_) (fun h21 => ?_)
                            · skip
                              refine TL.skip rfl (fun k hk => by cases hk; decide) ?_
                              refine TL.skip rfl (fun k hk => by cases hk; decide) ?_
                              refine TL.skip rfl (fun k hk => by cases hk; decide) ?_
                              refine TL.pure (PV.pickT rfl rfl) rfl (by decide) ?_
                              refine TL.nil ?_
                              refine TQ.thenC ?_
                              refine TC.condT rfl ?_
                              refine TC.seq ?_
                              refine TC.region ?_
                              refine TL.pure (PV.assign rfl) rfl (by decide) ?_
                              refine TL.nil ?_
                              refine TQ.thenC ?_
                              refine TC.ret ?_
                              refine TQ.thenR ?_
                              refine TQ.blkR ?_
                              refine TQ.thenR ?_
                              refine TQ.thenR ?_
                              refine TQ.blkR ?_
                              refine TQ.thenR ?_
                              refine TQ.retE1 rfl rfl ?_
                              first | exact ⟨(), rfl, trivial, List.nil_sublist _⟩ | exact ⟨(), by rw [decide_eq_true (himp (Decidable.of_not_not g15)).2.2.2], trivial, List.nil_sublist _⟩ | (exfalso; omega) | exact ⟨(), by simp; omega, trivial, List.nil_sublist _⟩ | (exfalso; simp_all; done) | (exfalso; simp_all; omega) | exact ⟨(), by simp, trivial, List.nil_sublist _⟩
                            · skip
                              refine TL.pure (PV.fieldAddr rfl Tb.fo_46_1) rfl (by decide) ?_
                              refine TL.pure (PV.load rfl Tb.one_3 (by repeat (first | exact List.Mem.head _ | refine List.Mem.tail _ ?_ | refine List.mem_append_right _ ?_)) rfl) rfl (by decide) ?_
                              refine TL.pure (PV.gtr rfl rfl) rfl (by decide) ?_
                              refine TL.pure (PV.pickF rfl rfl) rfl (by decide) ?_
                              refine TL.nil ?_
                              refine TQ.thenC ?_
                              first | refine TC.condD rfl (fun hsb => ?_) (fun hsb => ?_) | refine TC.cond rfl (fun hsb => ?_) (fun hsb => ?_)
                              · skip
                                refine TC.seq ?_
                                refine TC.region ?_
                                refine TL.pure (PV.assign rfl) rfl (by decide) ?_
                                refine TL.nil ?_
                                refine TQ.thenC ?_
                                refine TC.ret ?_
                                refine TQ.thenR ?_
                                refine TQ.blkR ?_
                                refine TQ.thenR ?_
                                refine TQ.thenR ?_
                                refine TQ.blkR ?_
                                refine TQ.thenR ?_
                                refine TQ.retE1 rfl rfl ?_
                                first | exact ⟨(), rfl, trivial, List.nil_sublist _⟩ | exact ⟨(), by rw [decide_eq_true (himp (Decidable.of_not_not g15)).2.2.2], trivial, List.nil_sublist _⟩ | (exfalso; omega) | exact ⟨(), by simp; omega, trivial, List.nil_sublist _⟩ | (exfalso; simp_all; done) | (exfalso; simp_all; omega) | exact ⟨(), by simp, trivial, List.nil_sublist _⟩
                              · skip
                                refine TC.skip ?_
                                refine TQ.thenC ?_
                                refine TC.region ?_
                                refine TL.pure (PV.fieldAddr rfl Tb.fo_46_0) rfl (by decide) ?_
                                refine TL.pure (PV.load rfl Tb.one_3 (by repeat (first | exact List.Mem.head _ | refine List.Mem.tail _ ?_ | refine List.mem_append_right _ ?_)) rfl) rfl (by decide) ?_
                                refine TL.pure (PV.fieldAddr rfl Tb.fo_46_1) rfl (by decide) ?_
                                refine TL.pure (PV.load rfl Tb.one_3 (by repeat (first | exact List.Mem.head _ | refine List.Mem.tail _ ?_ | refine List.mem_append_right _ ?_)) rfl) rfl (by decide) ?_
                                refine TL.pure (PV.mul rfl rfl (by omega)) rfl (by decide) ?_
                                refine TL.pure (PV.fieldAddr rfl Tb.fo_46_0) rfl (by decide) ?_
                                refine TL.pure (PV.load rfl Tb.one_3 (by repeat (first | exact List.Mem.head _ | refine List.Mem.tail _ ?_ | refine List.mem_append_right _ ?_)) rfl) rfl (by decide) ?_
                                refine TL.pure (PV.fieldAddr rfl Tb.fo_46_1) rfl (by decide) ?_
                                refine TL.pure (PV.load rfl Tb.one_3 (by repeat (first | exact List.Mem.head _ | refine List.Mem.tail _ ?_ | refine List.mem_append_right _ ?_)) rfl) rfl (by decide) ?_
                                refine TL.pure (PV.mul rfl rfl (by omega)) rfl (by decide) ?_
                                refine TL.pure (PV.add rfl rfl (by omega)) rfl (by decide) ?_
                                refine TL.pure (PV.fieldAddr rfl Tb.fo_46_1) rfl (by decide) ?_
                                refine TL.pure (PV.load rfl Tb.one_3 (by repeat (first | exact List.Mem.head _ | refine List.Mem.tail _ ?_ | refine List.mem_append_right _ ?_)) rfl) rfl (by decide) ?_
                                refine TL.pure (PV.fieldAddr rfl Tb.fo_46_1) rfl (by decide) ?_
                                refine TL.pure (PV.load rfl Tb.one_3 (by repeat (first | exact List.Mem.head _ | refine List.Mem.tail _ ?_ | refine List.mem_append_right _ ?_)) rfl) rfl (by decide) ?_
                                refine TL.pure (PV.mul rfl rfl (by omega)) rfl (by decide) ?_
                                refine TL.call rfl Tb.gofn_50 (fun a w hs => sum_step w n rs hv k (by omega)) rfl (by decide) (fun _ _ => ?_)
                                refine TL.storeAgg rfl rfl Tb.cells_46 (by repeat (first | exact Upd.head _ | apply Upd.tail | apply Upd.appR)) rfl rfl rfl rfl rfl ?_
                                refine TL.nil ?_
                                refine TQ.blkN ?_
                                refine TQ.thenC ?_
                                refine TC.region ?_
                                refine TL.pure (PV.move rfl) rfl (by decide) ?_
                                refine TL.pure (PV.add rfl rfl (by omega)) rfl (by decide) ?_
                                refine TL.pure (PV.assign rfl) rfl (by decide) ?_
                                refine TL.nil ?_
                                refine TQ.thenN ?_
                                refine TQ.backK (k + 1) (by repeat (first | exact True.intro | refine And.intro rfl ?_)) (by repeat (first | exact True.intro | refine And.intro rfl ?_)) (by repeat (first | exact List.Sublist.refl _ | refine List.Sublist.cons_cons _ ?_ | refine List.Sublist.cons _ ?_ | refine List.Sublist.trans ?_ (List.sublist_append_right _ _))) (by omega) (by omega)
                      · skip
                        refine TC.exit ?_
                        refine TQ.thenE ?_
                        refine TQ.thenE ?_
                        refine TQ.blkS ?_
                        refine TQ.thenC ?_
                        refine TC.seq ?_
                        refine TC.seq ?_
                        have hend := s_end hv.nat.1
                        have hkk : k = rs.length := by omega
                        subst hkk
                        refine TC.region ?_
                        refine TL.pure (PV.loadBox rfl Tb.agg_46 (by repeat (first | exact List.Mem.head _ | refine List.Mem.tail _ ?_ | refine List.mem_append_right _ ?_)) rfl) rfl (by decide) ?_
                        refine TL.pure (PV.fieldAddr rfl Tb.fo_24_0) rfl (by decide) ?_
                        refine TL.pure (PV.load rfl Tb.one_3 (by repeat (first | exact List.Mem.head _ | refine List.Mem.tail _ ?_ | refine List.mem_append_right _ ?_)) rfl) rfl (by decide) ?_
                        refine TL.pure (PV.move rfl) rfl (by decide) ?_
                        refine TL.pure (PV.lenG rfl hx.ok Tb.sl_27) rfl (by decide) ?_
                        refine TL.pure (PV.sub rfl rfl (by omega)) rfl (by decide) ?_
                        refine TL.pure (PV.build rfl Tb.zero_46 Tb.pl_46 (fill_r _ _)) rfl (by decide) ?_
                        refine TL.pure (PV.cmp rfl rfl (eq46n_guard _ _ _ _ _ _) (eq46n _ _ _ _)) rfl (by decide) ?_
                        refine TL.nil ?_
                        refine TQ.thenC ?_
                        first | refine TC.condD rfl (fun hne => ?_) (fun hne => ?_) | refine TC.cond rfl (fun hne => ?_) (fun hne => ?_)
                        · skip
                          refine TC.seq ?_
                          refine TC.region ?_
                          refine TL.pure (PV.assign rfl) rfl (by decide) ?_
                          refine TL.nil ?_
                          refine TQ.thenC ?_
                          refine TC.ret ?_
                          refine TQ.thenR ?_
                          refine TQ.retE1 rfl rfl ?_
                          first | exact ⟨(), rfl, trivial, List.nil_sublist _⟩ | exact ⟨(), by rw [decide_eq_true (himp (Decidable.of_not_not g15)).2.2.2], trivial, List.nil_sublist _⟩ | (exfalso; omega) | exact ⟨(), by simp; omega, trivial, List.nil_sublist _⟩ | (exfalso; simp_all; done) | (exfalso; simp_all; omega) | exact ⟨(), by simp, trivial, List.nil_sublist _⟩
                        · skip
                          refine TC.skip ?_
                          refine TQ.thenC ?_
                          refine TC.seq ?_
                          refine TC.lit [(3, _), (4, _), (5, _), (12, _)] (by repeat (first | exact True.intro | refine And.intro rfl ?_)) ?_
                          refine TC.region ?_
                          refine TL.pure (PV.loadBox rfl Tb.agg_24 (by repeat (first | exact List.Mem.head _ | refine List.Mem.tail _ ?_ | refine List.mem_append_right _ ?_)) rfl) rfl (by decide) ?_
                          refine TL.pure (PV.loadBox rfl Tb.agg_61 (by repeat (first | exact List.Mem.head _ | refine List.Mem.tail _ ?_ | refine List.mem_append_right _ ?_)) rfl) rfl (by decide) ?_
                          refine TL.call rfl Tb.gofn_51 (fun a w hs => With_ok w n p cap rs (hr.new hs.new) (by omega) r) rfl (by decide) (fun y hy => ?_)
                          refine TL.pure (PV.move rfl) rfl (by decide) ?_
                          refine TL.pure (PV.extract rfl rfl) rfl (by decide) ?_
                          refine TL.pure (PV.extract rfl rfl) rfl (by decide) ?_
                          refine TL.alloc Tb.zero_24 rfl (by decide) (fun b8 hb8 => ?_)
                          refine TL.storeAgg rfl rfl Tb.cells_24 (by repeat (first | exact Upd.head _ | apply Upd.tail | apply Upd.appR)) rfl rfl (by first | rfl | exact sv_one _ _ _) rfl rfl ?_
                          refine TL.pure (PV.assign rfl) rfl (by decide) ?_
                          refine TL.nil ?_
                          refine TQ.thenC ?_
                          refine TC.seq ?_
                          refine TC.region ?_
                          refine TL.pure (PV.loadBox rfl Tb.agg_24 (by repeat (first | exact List.Mem.head _ | refine List.Mem.tail _ ?_ | refine List.mem_append_right _ ?_)) rfl) rfl (by decide) ?_
                          refine TL.pure (PV.fieldAddr rfl Tb.fo_74_1) rfl (by decide) ?_
                          refine TL.pure (PV.load rfl Tb.one_3 (by repeat (first | exact List.Mem.head _ | refine List.Mem.tail _ ?_ | refine List.mem_append_right _ ?_)) rfl) rfl (by decide) ?_
                          refine TL.pure (PV.fieldAddr rfl Tb.fo_74_2) rfl (by decide) ?_
                          refine TL.pure (PV.load rfl Tb.one_3 (by repeat (first | exact List.Mem.head _ | refine List.Mem.tail _ ?_ | refine List.mem_append_right _ ?_)) rfl) rfl (by decide) ?_
                          refine TL.call rfl Tb.gofn_44 (fun a w hs => error_any w _ _ _ _ (hr.new hs.new) _ _) rfl (by decide) (fun _ _ => ?_)
                          refine TL.pure (PV.move rfl) rfl (by decide) ?_
                          refine TL.pure (PV.extract rfl rfl) rfl (by decide) ?_
                          refine TL.pure (PV.extract rfl rfl) rfl (by decide) ?_
                          refine TL.alloc Tb.zero_46 rfl (by decide) (fun b9 hb9 => ?_)
                          refine TL.storeAgg rfl rfl Tb.cells_46 (by repeat (first | exact Upd.head _ | apply Upd.tail | apply Upd.appR)) rfl rfl rfl rfl rfl ?_
                          refine TL.pure (PV.assign rfl) rfl (by decide) ?_
                          refine TL.nil ?_
                          refine TQ.thenC ?_
                          refine TC.seq ?_
                          refine TC.region ?_
                          refine TL.pure (PV.loadBox rfl Tb.agg_24 (by repeat (first | exact List.Mem.head _ | refine List.Mem.tail _ ?_ | refine List.mem_append_right _ ?_)) rfl) rfl (by decide) ?_
                          refine TL.pure (PV.fieldAddr rfl Tb.fo_74_1) rfl (by decide) ?_
                          refine TL.pure (PV.load rfl Tb.one_3 (by repeat (first | exact List.Mem.head _ | refine List.Mem.tail _ ?_ | refine List.mem_append_right _ ?_)) rfl) rfl (by decide) ?_
                          refine TL.pure (PV.fieldAddr rfl Tb.fo_74_2) rfl (by decide) ?_
                          refine TL.pure (PV.load rfl Tb.one_3 (by repeat (first | exact List.Mem.head _ | refine List.Mem.tail _ ?_ | refine List.mem_append_right _ ?_)) rfl) rfl (by decide) ?_
                          refine TL.call rfl Tb.gofn_44 (fun a w hs => errorS w y.1 y.2.1 _ y.2.2 rfl hy.ok (RdsAt.s hs.new (fun yy hyy => by first | exact List.mem_append_left _ hyy | (simp only [List.mem_append, List.mem_cons]; simp [hyy])) hy.ok) _ _) rfl (by decide) (fun _ _ => ?_)
                          refine TL.pure (PV.move rfl) rfl (by decide) ?_
                          refine TL.pure (PV.extract rfl rfl) rfl (by decide) ?_
                          refine TL.pure (PV.extract rfl rfl) rfl (by decide) ?_
                          refine TL.alloc Tb.zero_46 rfl (by decide) (fun b10 hb10 => ?_)
                          refine TL.storeAgg rfl rfl Tb.cells_46 (by repeat (first | exact Upd.head _ | apply Upd.tail | apply Upd.appR)) rfl rfl rfl rfl rfl ?_
                          refine TL.pure (PV.assign rfl) rfl (by decide) ?_
                          refine TL.nil ?_
                          refine TQ.thenC ?_
                          refine TC.seq ?_
                          refine TC.region ?_
                          refine TL.pure (PV.loadBox rfl Tb.agg_24 (by repeat (first | exact List.Mem.head _ | refine List.Mem.tail _ ?_ | refine List.mem_append_right _ ?_)) rfl) rfl (by decide) ?_
                          refine TL.call rfl Tb.gofn_39 (fun a w hs => misfitS w y.1 y.2.1 _ y.2.2 rfl hy.ok (RdsAt.s hs.new (fun yy hyy => by first | exact List.mem_append_left _ hyy | (simp only [List.mem_append, List.mem_cons]; simp [hyy])) hy.ok)) rfl (by decide) (fun _ _ => ?_)
                          refine TL.pure (PV.move rfl) rfl (by decide) ?_
                          refine TL.pure (PV.extract rfl rfl) rfl (by decide) ?_
                          refine TL.pure (PV.extract rfl rfl) rfl (by decide) ?_
                          refine TL.alloc Tb.zero_46 rfl (by decide) (fun b11 hb11 => ?_)
                          refine TL.storeAgg rfl rfl Tb.cells_46 (by repeat (first | exact Upd.head _ | apply Upd.tail | apply Upd.appR)) rfl rfl rfl rfl rfl ?_
                          refine TL.pure (PV.assign rfl) rfl (by decide) ?_
                          refine TL.nil ?_
                          refine TQ.thenC ?_
                          refine TC.seq ?_
                          refine TC.seq ?_
                          refine TC.region ?_
                          refine TL.pure (PV.move rfl) rfl (by decide) ?_
                          refine TL.pure (PV.neq rfl rfl) rfl (by decide) ?_
                          refine TL.nil ?_
                          refine TQ.thenC ?_
                          first | refine TC.condD rfl (fun hw => ?_) (fun hw => ?_) | refine TC.cond rfl (fun hw => ?_) (fun hw => ?_)
                          · skip
                            refine TC.seq ?_
                            refine TC.region ?_
                            refine TL.pure (PV.assign rfl) rfl (by decide) ?_
                            refine TL.nil ?_
                            refine TQ.thenC ?_
                            refine TC.ret ?_
                            refine TQ.thenR ?_
                            refine TQ.retE1 rfl rfl ?_
                            first | exact ⟨(), rfl, trivial, List.nil_sublist _⟩ | exact ⟨(), by rw [decide_eq_true (himp (Decidable.of_not_not g15)).2.2.2], trivial, List.nil_sublist _⟩ | (exfalso; omega) | exact ⟨(), by simp; omega, trivial, List.nil_sublist _⟩ | (exfalso; simp_all; done) | (exfalso; simp_all; omega) | exact ⟨(), by simp, trivial, List.nil_sublist _⟩
                          · skip
                            refine TC.skip ?_
                            refine TQ.thenC ?_
                            refine TC.seq ?_
                            refine TC.seq ?_
                            have hw0 : withE n rs r = 0 := by first | exact Decidable.of_not_not hw | simpa using hw
                            have q1 : y.1 = n := by rw [hy.num, if_pos hw0]
                            have q2 : y.2.2 = rs ++ [r] := by rw [hy.eq, if_pos hw0]
                            have hv2 : Valid n (rs ++ [r]) := by have h9 := hw0; rw [withE, if_neg (not_not_intro (show validateI n rs = 0 from hv))] at h9; exact h9
                            have w1 : validateI y.1 y.2.2 = 0 := by rw [q1, q2]; exact hv2
                            have w2 : mfV y.1 y.2.2 (mfA y.1 y.2.2) = mfA n (rs ++ [r]) := by rw [mfV, if_pos w1, q1, q2]
                            have w3 : mfV y.1 y.2.2 (mfB y.1 y.2.2) = mfB n (rs ++ [r]) := by rw [mfV, if_pos w1, q1, q2]
                            rw [w2, w3]
                            obtain ⟨gm2, mm⟩ := mfIs hv2
                            have n1 := mm.nn
                            have n2 := mm.nb
                            have n3 := mm.dpos
                            have n4 := mm.dle
                            have tb2 := tdiv_bound (g := mfB n (rs ++ [r])) (a := mfA n (rs ++ [r])) (B := 4000000000000000000) (by omega) (by omega) (by omega)
                            have hup := quo_mono m1 (by omega) n1 (by omega) (mf_up hv hv2)
                            refine TC.any Tb.mixed rfl rfl ?_
                            refine TA.op (OpOK.pure (PV.move rfl) rfl (by decide)) (by decide) ?_
                            refine TA.op (OpOK.pure (PV.neq rfl rfl) rfl (by decide)) (by decide) ?_
                            refine TA.op (OpOK.pure (PV.move rfl) rfl (by decide)) (by decide) ?_
                            first | refine TA.splitD 279 rfl (fun g13 => ?_) (fun g13 => ?_) | refine TA.split 279 rfl (fun g13 => ?_) (fun g13 => ?_)
                            · skip
                              refine TA.op (OpOK.skip rfl) (by decide) ?_
                              refine TA.op (OpOK.skip rfl) (by decide) ?_
                              refine TA.op (OpOK.skip rfl) (by decide) ?_
                              refine TA.op (OpOK.pure (PV.pickT rfl rfl) rfl (by decide)) (by decide) ?_
                              refine TA.op (OpOK.pure (PV.move rfl) rfl (by decide)) (by decide) ?_
                              refine TA.op (OpOK.skip rfl) (by decide) ?_
                              refine TA.op (OpOK.skip rfl) (by decide) ?_
                              refine TA.op (OpOK.skip rfl) (by decide) ?_
                              refine TA.op (OpOK.skip rfl) (by decide) ?_
                              refine TA.op (OpOK.skip rfl) (by decide) ?_
                              refine TA.op (OpOK.skip rfl) (by decide) ?_
                              refine TA.op (OpOK.skip rfl) (by decide) ?_
                              refine TA.op (OpOK.skip rfl) (by decide) ?_
                              refine TA.op (OpOK.skip rfl) (by decide) ?_
                              refine TA.op (OpOK.skip rfl) (by decide) ?_
                              refine TA.op (OpOK.skip rfl) (by decide) ?_
                              refine TA.op (OpOK.skip rfl) (by decide) ?_
                              refine TA.op (OpOK.pure (PV.pickT rfl rfl) rfl (by decide)) (by decide) ?_
                              show TQ _ _ _ _ _
                              refine TQ.thenC ?_
                              refine TC.condT rfl ?_
                              refine TC.seq ?_
                              refine TC.region ?_
                              refine TL.pure (PV.assign rfl) rfl (by decide) ?_
                              refine TL.nil ?_
                              refine TQ.thenC ?_
                              refine TC.ret ?_
                              refine TQ.thenR ?_
                              refine TQ.retE1 rfl rfl ?_
                              first | exact ⟨(), rfl, trivial, List.nil_sublist _⟩ | exact ⟨(), by rw [decide_eq_true (himp (Decidable.of_not_not g15)).2.2.2], trivial, List.nil_sublist _⟩ | (exfalso; omega) | exact ⟨(), by simp; omega, trivial, List.nil_sublist _⟩ | (exfalso; simp_all; done) | (exfalso; simp_all; omega) | exact ⟨(), by simp, trivial, List.nil_sublist _⟩
                            · skip
                              refine TA.op (OpOK.pure (PV.fieldAddr rfl Tb.fo_46_1) rfl (by decide)) (by decide) ?_
                              refine TA.op (OpOK.pure (PV.load rfl Tb.one_3 (by repeat (first | exact List.Mem.head _ | refine List.Mem.tail _ ?_ | refine List.mem_append_right _ ?_)) rfl) rfl (by decide)) (by decide) ?_
                              refine TA.op (OpOK.pure (PV.lss rfl rfl) rfl (by decide)) (by decide) ?_
                              refine TA.op (OpOK.pure (PV.pickF rfl rfl) rfl (by decide)) (by decide) ?_
                              refine TA.op (OpOK.pure (PV.move rfl) rfl (by decide)) (by decide) ?_
                              first | refine TA.splitD 284 rfl (fun g14 => ?_) (fun g14 => ?_) | refine TA.split 284 rfl (fun g14 => ?_) (fun g14 => ?_)
                              · skip
                                refine TA.op (OpOK.skip rfl) (by decide) ?_
                                refine TA.op (OpOK.skip rfl) (by decide) ?_
                                refine TA.op (OpOK.skip rfl) (by decide) ?_
                                refine TA.op (OpOK.skip rfl) (by decide) ?_
                                refine TA.op (OpOK.skip rfl) (by decide) ?_
                                refine TA.op (OpOK.skip rfl) (by decide) ?_
                                refine TA.op (OpOK.skip rfl) (by decide) ?_
                                refine TA.op (OpOK.skip rfl) (by decide) ?_
                                refine TA.op (OpOK.skip rfl) (by decide) ?_
                                refine TA.op (OpOK.skip rfl) (by decide) ?_
                                refine TA.op (OpOK.skip rfl) (by decide) ?_
                                refine TA.op (OpOK.skip rfl) (by decide) ?_
                                refine TA.op (OpOK.pure (PV.pickT rfl rfl) rfl (by decide)) (by decide) ?_
                                show TQ _ _ _ _ _
                                refine TQ.thenC ?_
                                refine TC.condT rfl ?_
                                refine TC.seq ?_
                                refine TC.region ?_
                                refine TL.pure (PV.assign rfl) rfl (by decide) ?_
                                refine TL.nil ?_
                                refine TQ.thenC ?_
                                refine TC.ret ?_
                                refine TQ.thenR ?_
                                refine TQ.retE1 rfl rfl ?_
                                first | exact ⟨(), rfl, trivial, List.nil_sublist _⟩ | exact ⟨(), by rw [decide_eq_true (himp (Decidable.of_not_not g15)).2.2.2], trivial, List.nil_sublist _⟩ | (exfalso; omega) | exact ⟨(), by simp; omega, trivial, List.nil_sublist _⟩ | (exfalso; simp_all; done) | (exfalso; simp_all; omega) | exact ⟨(), by simp, trivial, List.nil_sublist _⟩
                              · skip
                                refine TA.op (OpOK.pure (PV.fieldAddr rfl Tb.fo_46_0) rfl (by decide)) (by decide) ?_
                                refine TA.op (OpOK.pure (PV.load rfl Tb.one_3 (by repeat (first | exact List.Mem.head _ | refine List.Mem.tail _ ?_ | refine List.mem_append_right _ ?_)) rfl) rfl (by decide)) (by decide) ?_
                                refine TA.op (OpOK.pure (PV.fieldAddr rfl Tb.fo_46_1) rfl (by decide)) (by decide) ?_
                                refine TA.op (OpOK.pure (PV.load rfl Tb.one_3 (by repeat (first | exact List.Mem.head _ | refine List.Mem.tail _ ?_ | refine List.mem_append_right _ ?_)) rfl) rfl (by decide)) (by decide) ?_
                                refine TA.op (OpOK.pure (PV.quo rfl rfl (by omega) (by omega)) rfl (by decide)) (by decide) ?_
                                refine TA.op (OpOK.pure (PV.fieldAddr rfl Tb.fo_46_0) rfl (by decide)) (by decide) ?_
                                refine TA.op (OpOK.pure (PV.load rfl Tb.one_3 (by repeat (first | exact List.Mem.head _ | refine List.Mem.tail _ ?_ | refine List.mem_append_right _ ?_)) rfl) rfl (by decide)) (by decide) ?_
                                refine TA.op (OpOK.pure (PV.fieldAddr rfl Tb.fo_46_1) rfl (by decide)) (by decide) ?_
                                refine TA.op (OpOK.pure (PV.load rfl Tb.one_3 (by repeat (first | exact List.Mem.head _ | refine List.Mem.tail _ ?_ | refine List.mem_append_right _ ?_)) rfl) rfl (by decide)) (by decide) ?_
                                refine TA.op (OpOK.pure (PV.quo rfl rfl (by omega) (by omega)) rfl (by decide)) (by decide) ?_
                                refine TA.op (OpOK.pure (PV.sub rfl rfl (by omega)) rfl (by decide)) (by decide) ?_
                                refine TA.op (OpOK.pure (PV.lss rfl rfl) rfl (by decide)) (by decide) ?_
                                refine TA.op (OpOK.pure (PV.pickF rfl rfl) rfl (by decide)) (by decide) ?_
                                show TQ _ _ _ _ _
                                refine TQ.thenC ?_
                                first | refine TC.condD rfl (fun hmm => ?_) (fun hmm => ?_) | refine TC.cond rfl (fun hmm => ?_) (fun hmm => ?_)
                                · skip
                                  refine TC.seq ?_
                                  refine TC.region ?_
                                  refine TL.pure (PV.assign rfl) rfl (by decide) ?_
                                  refine TL.nil ?_
                                  refine TQ.thenC ?_
                                  refine TC.ret ?_
                                  refine TQ.thenR ?_
                                  refine TQ.retE1 rfl rfl ?_
                                  first | exact ⟨(), rfl, trivial, List.nil_sublist _⟩ | exact ⟨(), by rw [decide_eq_true (himp (Decidable.of_not_not g15)).2.2.2], trivial, List.nil_sublist _⟩ | (exfalso; omega) | exact ⟨(), by simp; omega, trivial, List.nil_sublist _⟩ | (exfalso; simp_all; done) | (exfalso; simp_all; omega) | exact ⟨(), by simp, trivial, List.nil_sublist _⟩
                                · skip
                                  refine TC.skip ?_
                                  refine TQ.thenC ?_
                                  refine TC.seq ?_
                                  have himp : errE n rs ci cj = 0 → errE y.1 y.2.2 ci cj = 0 ∧ 1 ≤ errD n rs ci cj ∧ 1 ≤ errD y.1 y.2.2 ci cj ∧ errN y.1 y.2.2 ci cj * errD n rs ci cj ≤ errN n rs ci cj * errD y.1 y.2.2 ci cj := by rw [q1, q2]; exact err_imp hw0
                                  have k1 := errBn n rs ci cj
                                  have k2 := errBn y.1 y.2.2 ci cj
                                  have k3 := k1.1.mul k2.2
                                  have k4 := k2.1.mul k1.2
                                  unfold Bn at k3 k4
                                  refine TC.region ?_
                                  refine TL.pure (PV.move rfl) rfl (by decide) ?_
                                  refine TL.pure (PV.neq rfl rfl) rfl (by decide) ?_
                                  refine TL.pure (PV.move rfl) rfl (by decide) ?_
                                  first | refine TL.splitD 300 rfl (fun g15 => ?_) (fun g15 => ?_) | refine TL.split 300 rfl (fun g15 => ?_) (fun g15 => ?_)
                                  · skip
                                    refine TL.skip rfl (fun k hk => by cases hk; decide) ?_
                                    refine TL.skip rfl (fun k hk => by cases hk; decide) ?_
                                    refine TL.skip rfl (fun k hk => by cases hk; decide) ?_
                                    refine TL.skipU rfl (fun k hk => by cases hk; decide) ?_
                                    refine TL.skipU rfl (fun k hk => by cases hk; decide) ?_
                                    refine TL.skipU rfl (fun k hk => by cases hk; decide) ?_
                                    refine TL.skip rfl (fun k hk => by cases hk; decide) ?_
                                    refine TL.skip rfl (fun k hk => by cases hk; decide) ?_
                                    refine TL.skipU rfl (fun k hk => by cases hk; decide) ?_
                                    refine TL.skipU rfl (fun k hk => by cases hk; decide) ?_
                                    refine TL.skipU rfl (fun k hk => by cases hk; decide) ?_
                                    refine TL.skip rfl (fun k hk => by cases hk; decide) ?_
                                    refine TL.skip rfl (fun k hk => by cases hk; decide) ?_
                                    refine TL.skipU rfl (fun k hk => by cases hk; decide) ?_
                                    refine TL.skipU rfl (fun k hk => by cases hk; decide) ?_
                                    refine TL.skipU rfl (fun k hk => by cases hk; decide) ?_
                                    refine TL.skipU rfl (fun k hk => by cases hk; decide) ?_
                                    refine TL.skipU rfl (fun k hk => by cases hk; decide) ?_
                                    refine TL.skipU rfl (fun k hk => by cases hk; decide) ?_
                                    refine TL.skipU rfl (fun k hk => by cases hk; decide) ?_
                                    refine TL.skipU rfl (fun k hk => by cases hk; decide) ?_
                                    refine TL.skipU rfl (fun k hk => by cases hk; decide) ?_
                                    refine TL.skipU rfl (fun k hk => by cases hk; decide) ?_
                                    refine TL.skipU rfl (fun k hk => by cases hk; decide) ?_
                                    refine TL.skip rfl (fun k hk => by cases hk; decide) ?_
                                    refine TL.pure (PV.pickT rfl rfl) rfl (by decide) ?_
                                    refine TL.pure (PV.assign rfl) rfl (by decide) ?_
                                    refine TL.nil ?_
                                    refine TQ.thenC ?_
                                    refine TC.ret ?_
                                    refine TQ.retE1 rfl rfl ?_
                                    first | exact ⟨(), rfl, trivial, List.nil_sublist _⟩ | exact ⟨(), by rw [decide_eq_true (himp (Decidable.of_not_not g15)).2.2.2], trivial, List.nil_sublist _⟩ | (exfalso; omega) | exact ⟨(), by simp; omega, trivial, List.nil_sublist _⟩ | (exfalso; simp_all; done) | (exfalso; simp_all; omega) | exact ⟨(), by simp, trivial, List.nil_sublist _⟩
                                  · skip
                                    refine TL.pure (PV.move rfl) rfl (by decide) ?_
                                    refine TL.pure (PV.eql rfl rfl) rfl (by decide) ?_
                                    refine TL.pure (PV.move rfl) rfl (by decide) ?_
                                    first | refine TL.splitD 303 rfl (fun g16 => ?_) (fun g16 => ?_) | refine TL.split 303 rfl (fun g16 => ?_) (fun g16 => ?_)
                                    · skip
                                      refine TL.pure (PV.fieldAddr rfl Tb.fo_46_1) rfl (by decide) ?_
                                      refine TL.pure (PV.load rfl Tb.one_3 (by repeat (first | exact List.Mem.head _ | refine List.Mem.tail _ ?_ | refine List.mem_append_right _ ?_)) rfl) rfl (by decide) ?_
                                      refine TL.pure (PV.gtr rfl rfl) rfl (by decide) ?_
                                      refine TL.pure (PV.pickT rfl rfl) rfl (by decide) ?_
                                      refine TL.pure (PV.move rfl) rfl (by decide) ?_
                                      first | refine TL.splitD 308 rfl (fun g17 => ?_) (fun g17 => ?_) | refine TL.split 308 rfl (fun g17 => ?_) (fun g17 => ?_)
                                      · skip
                                        refine TL.pure (PV.fieldAddr rfl Tb.fo_46_1) rfl (by decide) ?_
                                        refine TL.pure (PV.load rfl Tb.one_3 (by repeat (first | exact List.Mem.head _ | refine List.Mem.tail _ ?_ | refine List.mem_append_right _ ?_)) rfl) rfl (by decide) ?_
                                        refine TL.pure (PV.gtr rfl rfl) rfl (by decide) ?_
                                        refine TL.pure (PV.pickT rfl rfl) rfl (by decide) ?_
                                        refine TL.pure (PV.move rfl) rfl (by decide) ?_
                                        first | refine TL.splitD 313 rfl (fun g18 => ?_) (fun g18 => ?_) | refine TL.split 313 rfl (fun g18 => ?_) (fun g18 => ?_)
                                        · skip
                                          refine TL.pure (PV.fieldAddr rfl Tb.fo_46_0) rfl (by decide) ?_
                                          refine TL.pure (PV.load rfl Tb.one_3 (by repeat (first | exact List.Mem.head _ | refine List.Mem.tail _ ?_ | refine List.mem_append_right _ ?_)) rfl) rfl (by decide) ?_
                                          refine TL.pure (PV.fieldAddr rfl Tb.fo_46_1) rfl (by decide) ?_
                                          refine TL.pure (PV.load rfl Tb.one_3 (by repeat (first | exact List.Mem.head _ | refine List.Mem.tail _ ?_ | refine List.mem_append_right _ ?_)) rfl) rfl (by decide) ?_
                                          refine TL.pure (PV.mul rfl rfl (by omega)) rfl (by decide) ?_
                                          refine TL.pure (PV.fieldAddr rfl Tb.fo_46_0) rfl (by decide) ?_
                                          refine TL.pure (PV.load rfl Tb.one_3 (by repeat (first | exact List.Mem.head _ | refine List.Mem.tail _ ?_ | refine List.mem_append_right _ ?_)) rfl) rfl (by decide) ?_
                                          refine TL.pure (PV.fieldAddr rfl Tb.fo_46_1) rfl (by decide) ?_
                                          refine TL.pure (PV.load rfl Tb.one_3 (by repeat (first | exact List.Mem.head _ | refine List.Mem.tail _ ?_ | refine List.mem_append_right _ ?_)) rfl) rfl (by decide) ?_
                                          refine TL.pure (PV.mul rfl rfl (by omega)) rfl (by decide) ?_
                                          refine TL.pure (PV.leq rfl rfl) rfl (by decide) ?_
                                          refine TL.pure (PV.pickT rfl rfl) rfl (by decide) ?_
                                          refine TL.pure (PV.pickF rfl rfl) rfl (by decide) ?_
                                          refine TL.pure (PV.assign rfl) rfl (by decide) ?_
                                          refine TL.nil ?_
                                          refine TQ.thenC ?_
                                          refine TC.ret ?_
                                          refine TQ.retE1 rfl rfl ?_
                                          first | exact ⟨(), rfl, trivial, List.nil_sublist _⟩ | exact ⟨(), by rw [decide_eq_true (himp (Decidable.of_not_not g15)).2.2.2], trivial, List.nil_sublist _⟩ | (exfalso; omega) | exact ⟨(), by simp; omega, trivial, List.nil_sublist _⟩ | (exfalso; simp_all; done) | (exfalso; simp_all; omega) | exact ⟨(), by simp, trivial, List.nil_sublist _⟩
                                        · skip
                                          refine TL.skip rfl (fun k hk => by cases hk; decide) ?_
                                          refine TL.skip rfl (fun k hk => by cases hk; decide) ?_
                                          refine TL.skip rfl (fun k hk => by cases hk; decide) ?_
                                          refine TL.skip rfl (fun k hk => by cases hk; decide) ?_
                                          refine TL.skip rfl (fun k hk => by cases hk; decide) ?_
                                          refine TL.skip rfl (fun k hk => by cases hk; decide) ?_
                                          refine TL.skip rfl (fun k hk => by cases hk; decide) ?_
                                          refine TL.skip rfl (fun k hk => by cases hk; decide) ?_
                                          refine TL.skip rfl (fun k hk => by cases hk; decide) ?_
                                          refine TL.skip rfl (fun k hk => by cases hk; decide) ?_
                                          refine TL.skip rfl (fun k hk => by cases hk; decide) ?_
                                          refine TL.pure (PV.pickF rfl rfl) rfl (by decide) ?_
                                          refine TL.pure (PV.pickF rfl rfl) rfl (by decide) ?_
                                          refine TL.pure (PV.assign rfl) rfl (by decide) ?_
                                          refine TL.nil ?_
                                          refine TQ.thenC ?_
                                          refine TC.ret ?_
                                          refine TQ.retE1 rfl rfl ?_
                                          first | exact ⟨(), rfl, trivial, List.nil_sublist _⟩ | exact ⟨(), by rw [decide_eq_true (himp (Decidable.of_not_not g15)).2.2.2], trivial, List.nil_sublist _⟩ | (exfalso; omega) | exact ⟨(), by simp; omega, trivial, List.nil_sublist _⟩ | (exfalso; simp_all; done) | (exfalso; simp_all; omega) | exact ⟨(), by simp, trivial, List.nil_sublist _⟩
                                      · skip
                                        refine TL.skip rfl (fun k hk => by cases hk; decide) ?_
                                        refine TL.skip rfl (fun k hk => by cases hk; decide) ?_
                                        refine TL.skip rfl (fun k hk => by cases hk; decide) ?_
                                        refine TL.pure (PV.pickF rfl rfl) rfl (by decide) ?_
                                        refine TL.pure (PV.move rfl) rfl (by decide) ?_
                                        refine TL.skip rfl (fun k hk => by cases hk; decide) ?_
                                        refine TL.skip rfl (fun k hk => by cases hk; decide) ?_
                                        refine TL.skip rfl (fun k hk => by cases hk; decide) ?_
                                        refine TL.skip rfl (fun k hk => by cases hk; decide) ?_
                                        refine TL.skip rfl (fun k hk => by cases hk; decide) ?_
                                        refine TL.skip rfl (fun k hk => by cases hk; decide) ?_
                                        refine TL.skip rfl (fun k hk => by cases hk; decide) ?_
                                        refine TL.skip rfl (fun k hk => by cases hk; decide) ?_
                                        refine TL.skip rfl (fun k hk => by cases hk; decide) ?_
                                        refine TL.skip rfl (fun k hk => by cases hk; decide) ?_
                                        refine TL.skip rfl (fun k hk => by cases hk; decide) ?_
                                        refine TL.pure (PV.pickF rfl rfl) rfl (by decide) ?_
                                        refine TL.pure (PV.pickF rfl rfl) rfl (by decide) ?_
                                        refine TL.pure (PV.assign rfl) rfl (by decide) ?_
                                        refine TL.nil ?_
                                        refine TQ.thenC ?_
                                        refine TC.ret ?_
                                        refine TQ.retE1 rfl rfl ?_
                                        first | exact ⟨(), rfl, trivial, List.nil_sublist _⟩ | exact ⟨(), by rw [decide_eq_true (himp (Decidable.of_not_not g15)).2.2.2], trivial, List.nil_sublist _⟩ | (exfalso; omega) | exact ⟨(), by simp; omega, trivial, List.nil_sublist _⟩ | (exfalso; simp_all; done) | (exfalso; simp_all; omega) | exact ⟨(), by simp, trivial, List.nil_sublist _⟩
                                    · skip
                                      refine TL.skip rfl (fun k hk => by cases hk; decide) ?_
                                      refine TL.skip rfl (fun k hk => by cases hk; decide) ?_
                                      refine TL.skip rfl (fun k hk => by cases hk; decide) ?_
                                      refine TL.pure (PV.pickF rfl rfl) rfl (by decide) ?_
                                      refine TL.pure (PV.move rfl) rfl (by decide) ?_
                                      refine TL.skip rfl (fun k hk => by cases hk; decide) ?_
                                      refine TL.skip rfl (fun k hk => by cases hk; decide) ?_
                                      refine TL.skip rfl (fun k hk => by cases hk; decide) ?_
                                      refine TL.pure (PV.pickF rfl rfl) rfl (by decide) ?_
                                      refine TL.pure (PV.move rfl) rfl (by decide) ?_
                                      refine TL.skip rfl (fun k hk => by cases hk; decide) ?_
                                      refine TL.skip rfl (fun k hk => by cases hk; decide) ?_
                                      refine TL.skip rfl (fun k hk => by cases hk; decide) ?_
                                      refine TL.skip rfl (fun k hk => by cases hk; decide) ?_
                                      refine TL.skip rfl (fun k hk => by cases hk; decide) ?_
                                      refine TL.skip rfl (fun k hk => by cases hk; decide) ?_
                                      refine TL.skip rfl (fun k hk => by cases hk; decide) ?_
                                      refine TL.skip rfl (fun k hk => by cases hk; decide) ?_
                                      refine TL.skip rfl (fun k hk => by cases hk; decide) ?_
                                      refine TL.skip rfl (fun k hk => by cases hk; decide) ?_
                                      refine TL.skip rfl (fun k hk => by cases hk; decide) ?_
                                      refine TL.pure (PV.pickF rfl rfl) rfl (by decide) ?_
                                      refine TL.pure (PV.pickF rfl rfl) rfl (by decide) ?_
                                      refine TL.pure (PV.assign rfl) rfl (by decide) ?_
                                      refine TL.nil ?_
                                      refine TQ.thenC ?_
                                      refine TC.ret ?_
                                      refine TQ.retE1 rfl rfl ?_
                                      first | exact ⟨(), rfl, trivial, List.nil_sublist _⟩ | exact ⟨(), by rw [decide_eq_true (himp (Decidable.of_not_not g15)).2.2.2], trivial, List.nil_sublist _⟩ | (exfalso; omega) | exact ⟨(), by simp; omega, trivial, List.nil_sublist _⟩ | (exfalso; simp_all; done) | (exfalso; simp_all; omega) | exact ⟨(), by simp, trivial, List.nil_sublist _⟩

theorem topHeights_all (w0 : World) (n : Int) (p : Option Addr) (cap : Nat) (rs : List Rd) (hr : RdsAt w0 p rs) (pn : Option Addr) (cn : Nat) (zs : List Int) (ci cj : Int) (hz : IntsAt w0 pn zs) (_ : ∀ x ∈ zs, I64 x) (_ : I64 ci) (_ : I64 cj) (r : Rd) (_ : I64 r.fr) (_ : I64 r.to) (_ : I64 r.rise) (_ : I64 r.wt) :
    Calls Try.prog 16 #[sv n p rs.length cap, .agg #[.slice pn zs.length cn, .int .i64 ci, .int .i64 cj], r.val] w0 (Post (X := Unit) (fun _ => .bool true) (fun _ => True) (fun _ => []) w0) := topHeights_ok w0 n p cap rs hr pn cn zs ci cj hz r
end Go.Proofs.Ytmmgcajegokkoaa

namespace Go.Proofs.Ytmmgcajegokkoaa
open Go.ChangeShapes Go.WideShapes Go.ChangeAt Go.RowKit Go.Sx

set_option maxRecDepth 100000 in
theorem topHeights_lifted (os : Os) (started : os.Started) (H : Type) (enc : TypeId × Value → H) :
    ReturnsInHanded {} Try.checked os 16 .any (Rows.topHeightsSpec.pre6 enc Try.prog Try.f16 Rows.topHeightsRow.domain false) (Rows.topHeightsSpec.post enc Try.prog Try.f16 false true false false) := by
  refine returnsInHanded_of_change (C := Try.checked) own_knob started (by kernel_rfl) Try.func16
    (ChangeSpec.witness6 (enc := enc) (C := Try.checked) false ⟨#[], #[.agg #[.int .i64 0, .slice none 0 0], .agg #[.slice none 0 0, .int .i64 0, .int .i64 0], .agg #[.int .i64 0, .int .i64 0, .int .i64 0, .int .i64 0]], []⟩ 8 (by kernel_rfl) (by kernel_rfl) (by kernel_rfl) (by kernel_rfl)) ?_
  intro W base args ds gs before hval0 hW _ _
  have hval : ∀ (j : Nat) t v, Try.f16.params[j]? = some t → args[j]? = some v → Value.okWide Try.prog W .any base t v := hval0
  have hW' := hW
  obtain ⟨p, q, hA0, hV, rfl, _, _⟩ := hW
  have hA : DataW.TrodAll enc Try.prog W 0 (fun _ => true) true Try.f16.params.toList args.toList ds p := hA0
  rw [Try.params16] at hA hval
  obtain ⟨v0, v1, v2, d0, d1, d2, p0, p1, p2, rfl, rfl, rfl, h0, h1, h2⟩ := trodAll_three hA
  obtain ⟨rfl, rfl⟩ := trodVars_none hV
  clear hA0 hval0
  simp only [List.append_nil, List.append_assoc] at hW'
  have hlt0 : ∀ x ∈ p0, x.block < W.heap.size := fun x hx => by simpa using hW'.lt x (by simp [hx])
  have hlt1 : ∀ x ∈ p1, x.block < W.heap.size := fun x hx => by simpa using hW'.lt x (by simp [hx])
  have hlt2 : ∀ x ∈ p2, x.block < W.heap.size := fun x hx => by simpa using hW'.lt x (by simp [hx])
  obtain ⟨n0, a0, c0, rs0, rfl, hr0⟩ := survey_open (hval 0 24 v0 rfl rfl) h0
  obtain ⟨a1, c1, xs1, i1, j1, rfl, hx1, hb1, hi1, hj1⟩ := claim_open (hval 1 74 v1 rfl rfl) h1
  obtain ⟨r2, rfl, hi2, hj2, hk2, hl2⟩ := reading_open (hval 2 61 v2 rfl rfl) h2
  refine (topHeights_all W n0 a0 c0 rs0 hr0 a1 c1 xs1 i1 j1 hx1 hb1 hi1 hj1 r2 hi2 hj2 hk2 hl2).mono fun e W' ⟨_, he, _, hn⟩ => ?_
  subst he
  have hb := hn.below
  refine ⟨_, rfl, _, _, _, [], _, [], hW', trodAll_mk1 (shut_bool Try.underlying4 _), trodAll_mk3 (Below.trod laid_out (by kernel_rfl) (of_decide_eq_true (by kernel_rfl)) h0 hb hlt0) (Below.trod laid_out (by kernel_rfl) (of_decide_eq_true (by kernel_rfl)) h1 hb hlt1) (Below.trod laid_out (by kernel_rfl) (of_decide_eq_true (by kernel_rfl)) h2 hb hlt2), rfl, hb.frame _, fun h => by cases h⟩

theorem topHeights_holds : Rows.TopHeightsSaid :=
  OpenClaim.holds_of_wide 16 Try.f16 rfl rfl rfl rfl rfl rfl rfl ⟨rfl, rfl, rfl, rfl, rfl⟩ rfl rfl rfl rfl rfl (by kernel_rfl) Try.func16 (by kernel_rfl)
    (of_decide_eq_true (by kernel_rfl)) (by unfold Func.isWrapper; first | (rw [if_pos (by decide +kernel)]; kernel_rfl) | (rw [if_neg (by decide +kernel)]; exact ⟨rfl, rfl⟩))
    (fun os started H enc _ => topHeights_lifted os started H enc)

end Go.Proofs.Ytmmgcajegokkoaa
