/- How many fillings can be reached, by the reference: contracts. -/
import Derived.Test.YtkkipbkkijoneaaDx
set_option linter.unusedVariables false
set_option linter.unusedSimpArgs false
namespace Go.Proofs.Ytkkipbkkijoneaa
open Go.Sx Go.RowKit Go.Sand

/-- A slice of ints as an element. -/
structure SL where
  p : Option Addr
  c : Nat
  l : List Int
  deriving Inhabited
def slR : Rec SL where
  cells r := [.slice r.p r.l.length r.c]
  sz := 1
  len := fun _ => rfl
  one := fun r v hv => by rw [List.mem_singleton.1 hv]; rfl
  pos := by decide
def SLok (w0 : World) (H : Heap) (rs : List SL) : Prop := ∀ r ∈ rs, IntsAt w0 r.p r.l ∨ ∃ h, goI (h, r.l) ∧ gp h = r.p ∧ ∀ y ∈ gbI (h, r.l), y ∈ H
theorem SLok.at {w0 w : World} {G H : Heap} {rs : List SL} (h : SLok w0 H rs) (hn : New w0 w G) (hH : ∀ y ∈ H, y ∈ G) {j : Nat} (hj : j < rs.length) : IntsAt w (rs.getD j default).p (rs.getD j default).l := by
  rcases h (rs.getD j default) (by simp [List.getD, hj]) with h1 | ⟨h0, h1, h2, h3⟩
  · exact h1.new hn
  · rw [← h2]
    exact IntsAt.g (x := (h0, (rs.getD j default).l)) hn (fun y hy => hH y (h3 y hy)) h1
theorem SLok.mono {w0 : World} {H H' : Heap} {rs : List SL} (h : SLok w0 H rs) (hH : ∀ y ∈ H, y ∈ H') : SLok w0 H' rs := fun r hr => (h r hr).imp id fun ⟨h0, h1, h2, h3⟩ => ⟨h0, h1, h2, fun y hy => hH y (h3 y hy)⟩
theorem SLok.snoc {w0 : World} {H : Heap} {rs : List SL} {h8 : HD} {l : List Int} (h : SLok w0 H rs) (h1 : goI (h8, l)) : SLok w0 (gbI (h8, l) ++ H) (rs ++ [⟨gp h8, gc h8, l⟩]) := fun r hr => by
  rcases List.mem_append.1 hr with hr | hr
  · exact h.mono (fun y hy => List.mem_append_right _ hy) r hr
  · rw [List.mem_singleton] at hr
    subst hr
    exact .inr ⟨h8, h1, rfl, fun y hy => List.mem_append_left _ hy⟩
/-- What the reference keeps: what it found, what is new, and the blocks. -/
structure RX where
  i : Nat
  hf : HD
  rf : List SL
  hb : HD
  rb : List SL
  bl : Heap
structure RXok (w0 : World) (st : Two) (x : RX) : Prop where
  f : x.rf.map SL.l = st.1
  b : x.rb.map SL.l = st.2
  gf : goR slR x.hf x.rf
  gb : goR slR x.hb x.rb
  of : SLok w0 x.bl x.rf
  ob : SLok w0 x.bl x.rb
theorem map_getD {rs : List SL} {B : List (List Int)} (h : rs.map SL.l = B) {j : Nat} (hj : j < rs.length) : (rs.getD j default).l = B.getD j [] := by
  subst h
  simp [List.getD, hj]
theorem map_lenL {rs : List SL} {B : List (List Int)} (h : rs.map SL.l = B) : rs.length = B.length := by rw [← h, List.length_map]
theorem gs1 (p : Option Addr) (c : Nat) (l : List Int) (b : Nat) : gbR slR 25 (some (b, 1, [])) [⟨p, c, l⟩] = [(b, Obj.cells #[.slice p l.length c] 25 (0, 0))] := rfl
theorem RXok.snoc {w0 : World} {ss : List St} {m : List Int} {k : Nat} {st : Two} {z : RX} (h : RXok w0 (rM ss m k st) z) (hst : rM ss m (k + 1) st = ((rM ss m k st).1 ++ [doN m (ss.getD k default)], (rM ss m k st).2 ++ [doN m (ss.getD k default)]))
    {h8 hf hb : HD} (h1 : goI (h8, doN m (ss.getD k default))) (h2 : goR slR hf (z.rf ++ [⟨gp h8, gc h8, doN m (ss.getD k default)⟩])) (h3 : goR slR hb (z.rb ++ [⟨gp h8, gc h8, doN m (ss.getD k default)⟩])) :
    RXok w0 (rM ss m (k + 1) st) ⟨k + 1, hf, z.rf ++ [⟨gp h8, gc h8, doN m (ss.getD k default)⟩], hb, z.rb ++ [⟨gp h8, gc h8, doN m (ss.getD k default)⟩], gbI (h8, doN m (ss.getD k default)) ++ z.bl⟩ := by
  rw [hst]
  exact ⟨by simp [h.f], by simp [h.b], h2, h3, h.of.snoc h1, h.ob.snoc h1⟩
theorem RXok.skip {w0 : World} {ss : List St} {m : List Int} {k : Nat} {st : Two} {z : RX} (h : RXok w0 (rM ss m k st) z) (hst : rM ss m (k + 1) st = rM ss m k st) : RXok w0 (rM ss m (k + 1) st) ⟨k + 1, z.hf, z.rf, z.hb, z.rb, z.bl⟩ := by
  rw [hst]
  exact ⟨h.f, h.b, h.gf, h.gb, h.of, h.ob⟩
theorem mem_take {F : List (List Int)} {m : List Int} {q : Nat} (hq : q < F.length) : m ∈ F.take (q + 1) ↔ m ∈ F.take q ∨ F.getD q [] = m := by
  rw [List.take_succ_eq_append_getElem hq, List.mem_append, List.mem_singleton]
  simp [List.getD, hq, eq_comm]


set_option maxRecDepth 100000 in
set_option maxHeartbeats 8000000 in
theorem rReach_ok (w0 : World) (n : Int) (p : Option Addr) (cp : Nat) (ss : List St) (hr : StsAt w0 p ss) (hS : SmS ss) (vx : Value) (xs : List Int) (hv : IsI w0 vx xs) (hl : xs.length ≤ 1000000) (most : Int) :
    Calls Try.prog 40 #[yv n p ss.length cp, vx, .int .i64 most] w0 (Post (X := Unit) (fun _ => .tuple #[.int .i64 (rchR n ss xs most).1, .int .i64 (rchR n ss xs most).2]) (fun _ => True) (fun _ => []) w0) := by
  obtain ⟨pl, cl, rfl, hx⟩ := hv
  refine calls Try.func40 rfl (n := 90) rfl (by simp) ?_
  refine TC.seq ?_
  refine TC.region ?_
  refine TL.box rfl rfl (by decide) (fun b0 hb0 => ?_)
  refine TL.pure (PV.assign rfl) rfl (by decide) ?_
  refine TL.pure (PV.assign rfl) rfl (by decide) ?_
  refine TL.nil ?_
  refine TQ.thenC ?_
  refine TC.seq ?_
  refine TC.seq ?_
  refine TC.region ?_
  refine TL.pure (PV.loadBox rfl Tb.agg_24 (by repeat (first | exact List.Mem.head _ | refine List.Mem.tail _ ?_ | refine List.mem_append_right _ ?_)) rfl) rfl (by decide) ?_
  refine TL.pure (PV.move rfl) rfl (by decide) ?_
  refine TL.call rfl Tb.gofn_75 (fun a w hs => rfilled_ok w _ _ _ _ (hr.new hs.new) hS _ _ _ (hx.new hs.new) hl) rfl (by decide) (fun _ _ => ?_)
  refine TL.pure (PV.assign rfl) rfl (by decide) ?_
  refine TL.nil ?_
  refine TQ.thenC ?_
  refine TC.seq ?_
  refine TC.region ?_
  refine TL.pure (PV.move rfl) rfl (by decide) ?_
  refine TL.pure (PV.neq rfl rfl) rfl (by decide) ?_
  refine TL.nil ?_
  refine TQ.thenC ?_
  first | refine TC.condD rfl (fun a1 => ?_) (fun a1 => ?_) | refine TC.cond rfl (fun a1 => ?_) (fun a1 => ?_)
  · skip
    refine TC.seq ?_
    refine TC.region ?_
    refine TL.pure (PV.move rfl) rfl (by decide) ?_
    refine TL.pure (PV.assign rfl) rfl (by decide) ?_
    refine TL.pure (PV.assign rfl) rfl (by decide) ?_
    refine TL.nil ?_
    refine TQ.thenC ?_
    refine TC.ret ?_
    refine TQ.thenR ?_
    refine TQ.retE2 rfl rfl rfl ?_
    have e9 : rchR n ss xs most = (0, filI n ss [xs]) := if_pos a1
    exact ⟨(), by rw [e9], trivial, List.nil_sublist _⟩
  · skip
    refine TC.skip ?_
    refine TQ.thenC ?_
    refine TC.seq ?_
    refine TC.seq ?_
    refine TC.region ?_
    refine TL.pure (PV.move rfl) rfl (by decide) ?_
    refine TL.call rfl Tb.gofn_71 (fun a w hs => within_ok w _ _ _) rfl (by decide) (fun _ _ => ?_)
    refine TL.pure ((by first | exact PV.notD rfl | exact PV.not rfl)) rfl (by decide) ?_
    refine TL.nil ?_
    refine TQ.thenC ?_
    first | refine TC.condD rfl (fun a2 => ?_) (fun a2 => ?_) | refine TC.cond rfl (fun a2 => ?_) (fun a2 => ?_)
    · skip
      refine TC.seq ?_
      refine TC.region ?_
      refine TL.pure (PV.assign rfl) rfl (by decide) ?_
      refine TL.pure (PV.assign rfl) rfl (by decide) ?_
      refine TL.nil ?_
      refine TQ.thenC ?_
      refine TC.ret ?_
      refine TQ.thenR ?_
      refine TQ.retE2 rfl rfl rfl ?_
      have e9 : rchR n ss xs most = (0, 1) := by unfold rchR; rw [if_neg a1, if_neg (by unfold wiB; simpa using a2)]
      exact ⟨(), by rw [e9], trivial, List.nil_sublist _⟩
    · skip
      refine TC.skip ?_
      refine TQ.thenC ?_
      refine TC.seq ?_
      have hmo : wiB most 0 5 = true := by unfold wiB; simpa using a2
      have hm5 : 0 ≤ most ∧ most ≤ 5 := of_decide_eq_true hmo
      obtain ⟨N, rfl⟩ : ∃ N : Nat, most = N := ⟨most.toNat, by omega⟩
      have hV := vm_of a1
      have hsl := hV.toVY.len
      have e9 : rchR n ss xs N = ((((rR ss xs N).1.length : Nat) : Int), 0) := by unfold rchR; rw [if_neg a1, if_pos hmo, Int.toNat_natCast]
      refine TC.region ?_
      refine TL.pure (PV.move rfl) rfl (by decide) ?_
      refine TL.buildSlice (cs := #[.slice pl xs.length cl]) rfl Tb.sl_97 Tb.zi_25 (by decide) (fill_o _ _ _) (by decide) rfl (by decide) (fun bF hbF => ?_)
      refine TL.pure (PV.assign rfl) rfl (by decide) ?_
      refine TL.nil ?_
      refine TQ.thenC ?_
      refine TC.seq ?_
      refine TC.region ?_
      refine TL.pure (PV.move rfl) rfl (by decide) ?_
      refine TL.buildSlice (cs := #[.slice pl xs.length cl]) rfl Tb.sl_97 Tb.zi_25 (by decide) (fill_o _ _ _) (by decide) rfl (by decide) (fun bB hbB => ?_)
      refine TL.pure (PV.assign rfl) rfl (by decide) ?_
      refine TL.nil ?_
      refine TQ.thenC ?_
      refine TC.seq ?_
      refine TC.seq ?_
      refine TC.region ?_
      refine TL.pure (PV.assign rfl) rfl (by decide) ?_
      refine TL.nil ?_
      refine TQ.thenC ?_
      refine TC.block ?_
      refine TC.lit [(2, _), (3, _), (6, _), (7, _), (9, _), (10, _), (11, _)] (by repeat (first | exact True.intro | refine And.intro rfl ?_)) ?_
      refine TC.perm (List.Perm.swap _ _ _) ?_
      refine TC.loopK [2, 3, 6, 7] (X := RX) (fun x => x.i ≤ N ∧ RXok w0 (rR ss xs x.i) x) (fun x => [(11, .int .i64 x.i), (9, gval x.hf x.rf.length), (10, gval x.hb x.rb.length)]) (fun x => gbR slR 25 x.hf x.rf ++ (gbR slR 25 x.hb x.rb ++ (x.bl ++ [(b0, Obj.cells #[.int .i64 n, .slice p ss.length cp] 24 (0, 0))]))) (fun x => N - x.i) ⟨0, some (bF, 1, []), [⟨pl, cl, xs⟩], some (bB, 1, []), [⟨pl, cl, xs⟩], []⟩ ⟨Nat.zero_le _, ⟨rfl, rfl, go1 _ _, go1 _ _, fun r hr => by rw [List.mem_singleton.1 hr]; exact .inl hx, fun r hr => by rw [List.mem_singleton.1 hr]; exact .inl hx⟩⟩ (by repeat (first | exact True.intro | refine And.intro rfl ?_)) (by show List.Sublist ((bF, Obj.cells #[.slice pl xs.length cl] 25 (0, 0)) :: (bB, Obj.cells #[.slice pl xs.length cl] 25 (0, 0)) :: [_]) _; exact List.Sublist.refl _) ?_
      intro x hx9
      refine TC.lit [(2, _), (3, _), (6, _), (7, _), (9, _), (10, _), (11, _)] (by repeat (first | exact True.intro | refine And.intro rfl ?_)) ?_
      refine TC.seq ?_
      refine TC.seq ?_
      refine TC.region ?_
      refine TL.pure (PV.move rfl) rfl (by decide) ?_
      refine TL.pure (PV.move rfl) rfl (by decide) ?_
      refine TL.pure (PV.lss rfl rfl) rfl (by decide) ?_
      refine TL.nil ?_
      refine TQ.thenC ?_
      first | refine TC.condD rfl (fun hlt => ?_) (fun hlt => ?_) | refine TC.cond rfl (fun hlt => ?_) (fun hlt => ?_)
      · skip
        refine TC.skip ?_
        refine TQ.thenC ?_
        refine TC.seq ?_
        refine TC.block ?_
        refine TC.seq ?_
        have hvs := rR_vs hV x.i
        have hbd := rR_bd hsl xs (i := x.i) (by omega)
        have hlx := map_lenL hx9.2.b
        have hly := map_lenL hx9.2.f
        refine TC.region ?_
        refine TL.pure (PV.assign rfl) rfl (by decide) ?_
        refine TL.nil ?_
        refine TQ.thenC ?_
        refine TC.seq ?_
        refine TC.seq ?_
        refine TC.region ?_
        refine TL.pure (PV.assign rfl) rfl (by decide) ?_
        refine TL.nil ?_
        refine TQ.thenC ?_
        refine TC.block ?_
        refine TC.lit [(2, _), (3, _), (6, _), (7, _), (9, _), (10, _), (11, _), (12, _), (13, _)] (by repeat (first | exact True.intro | refine And.intro rfl ?_)) ?_
        refine TC.loopK [2, 3, 6, 7, 10, 11] (X := RX) (fun y => y.i ≤ x.rb.length ∧ RXok w0 (rB ss (rR ss xs x.i).2 y.i (rR ss xs x.i).1) y ∧ SLok w0 y.bl x.rb) (fun y => [(13, .int .i64 y.i), (9, gval y.hf y.rf.length), (12, gval y.hb y.rb.length)]) (fun y => gbR slR 25 y.hf y.rf ++ (gbR slR 25 y.hb y.rb ++ (gbR slR 25 x.hb x.rb ++ (y.bl ++ [(b0, Obj.cells #[.int .i64 n, .slice p ss.length cp] 24 (0, 0))])))) (fun y => x.rb.length - y.i) ⟨0, x.hf, x.rf, none, [], x.bl⟩ ⟨Nat.zero_le _, ⟨hx9.2.f, rfl, hx9.2.gf, ⟨rfl, rfl⟩, hx9.2.of, fun r hr => by cases hr⟩, hx9.2.ob⟩ (by repeat (first | exact True.intro | refine And.intro rfl ?_)) (by repeat (first | exact List.Sublist.slnil | exact List.nil_sublist _ | exact List.Sublist.refl _ | refine List.Sublist.cons_cons _ ?_ | refine List.Sublist.cons _ ?_ | refine List.Sublist.trans ?_ (List.sublist_append_right _ _))) ?_
        intro y hy9
        refine TC.lit [(2, _), (3, _), (6, _), (7, _), (9, _), (10, _), (11, _), (12, _), (13, _)] (by repeat (first | exact True.intro | refine And.intro rfl ?_)) ?_
        refine TC.seq ?_
        refine TC.seq ?_
        refine TC.region ?_
        refine TL.pure (PV.move rfl) rfl (by decide) ?_
        refine TL.pure (PV.move rfl) rfl (by decide) ?_
        refine TL.pure (PV.lenG (h := x.hb) (len := x.rb.length) (ys := rcs slR x.rb) rfl hx9.2.gb Tb.sl_97) rfl (by decide) ?_
        refine TL.pure (PV.lss rfl rfl) rfl (by decide) ?_
        refine TL.nil ?_
        refine TQ.thenC ?_
        first | refine TC.condD rfl (fun hlt2 => ?_) (fun hlt2 => ?_) | refine TC.cond rfl (fun hlt2 => ?_) (fun hlt2 => ?_)
        · skip
          refine TC.skip ?_
          refine TQ.thenC ?_
          refine TC.seq ?_
          refine TC.block ?_
          refine TC.seq ?_
          have hrl := map_getD hx9.2.b (j := y.i) (by omega)
          have hVM := getD_vm hvs.b (j := y.i) (by omega)
          rw [← hrl] at hVM
          have hV1 := rB_vs hvs.b hvs.f y.i (by omega)
          have hl1 := rB_len hsl (rR ss xs x.i).2 (rR ss xs x.i).1 y.i
          refine TC.region ?_
          refine TL.pure (PV.assign rfl) rfl (by decide) ?_
          refine TL.nil ?_
          refine TQ.thenC ?_
          refine TC.block ?_
          refine TC.lit [(2, _), (3, _), (6, _), (7, _), (9, _), (10, _), (11, _), (12, _), (13, _), (14, _)] (by repeat (first | exact True.intro | refine And.intro rfl ?_)) ?_
          refine TC.loopK [2, 3, 6, 7, 10, 11, 13] (X := RX) (fun z => z.i ≤ ss.length ∧ RXok w0 (rM ss (x.rb.getD y.i default).l z.i (rB ss (rR ss xs x.i).2 y.i (rR ss xs x.i).1)) z ∧ SLok w0 z.bl x.rb) (fun z => [(14, .int .i64 z.i), (9, gval z.hf z.rf.length), (12, gval z.hb z.rb.length)]) (fun z => gbR slR 25 z.hf z.rf ++ (gbR slR 25 z.hb z.rb ++ (gbR slR 25 x.hb x.rb ++ (z.bl ++ [(b0, Obj.cells #[.int .i64 n, .slice p ss.length cp] 24 (0, 0))])))) (fun z => ss.length - z.i) ⟨0, y.hf, y.rf, y.hb, y.rb, y.bl⟩ ⟨Nat.zero_le _, ⟨hy9.2.1.f, hy9.2.1.b, hy9.2.1.gf, hy9.2.1.gb, hy9.2.1.of, hy9.2.1.ob⟩, hy9.2.2⟩ (by repeat (first | exact True.intro | refine And.intro rfl ?_)) (by repeat (first | exact List.Sublist.slnil | exact List.nil_sublist _ | exact List.Sublist.refl _ | refine List.Sublist.cons_cons _ ?_ | refine List.Sublist.cons _ ?_ | refine List.Sublist.trans ?_ (List.sublist_append_right _ _))) ?_
          intro z hz9
          refine TC.lit [(2, _), (3, _), (6, _), (7, _), (9, _), (10, _), (11, _), (12, _), (13, _), (14, _)] (by repeat (first | exact True.intro | refine And.intro rfl ?_)) ?_
          refine TC.seq ?_
          refine TC.seq ?_
          refine TC.region ?_
          refine TL.pure (PV.move rfl) rfl (by decide) ?_
          refine TL.pure (PV.fieldAddr rfl Tb.fo_24_1) rfl (by decide) ?_
          refine TL.pure (PV.load rfl Tb.one_22 (by repeat (first | exact List.Mem.head _ | refine List.Mem.tail _ ?_ | refine List.mem_append_right _ ?_)) rfl) rfl (by decide) ?_
          refine TL.pure (PV.len rfl Tb.sl_22) rfl (by decide) ?_
          refine TL.pure (PV.lss rfl rfl) rfl (by decide) ?_
          refine TL.nil ?_
          refine TQ.thenC ?_
          first | refine TC.condD rfl (fun hlt3 => ?_) (fun hlt3 => ?_) | refine TC.cond rfl (fun hlt3 => ?_) (fun hlt3 => ?_)
          · skip
            refine TC.skip ?_
            refine TQ.thenC ?_
            refine TC.seq ?_
            refine TC.block ?_
            refine TC.seq ?_
            have hV2 := rM_vs hVM hV1 z.i (by omega)
            have hl2 := rM_len ss (x.rb.getD y.i default).l (rB ss (rR ss xs x.i).2 y.i (rR ss xs x.i).1) z.i
            have hlz := map_lenL hz9.2.1.f
            have hlw := map_lenL hz9.2.1.b
            refine TC.mixV [true, true, true, true, true, true, false, true, true, true, true, true] (gbR slR 25 z.hf z.rf ++ (gbR slR 25 z.hb z.rb ++ (gbR slR 25 x.hb x.rb ++ (z.bl ++ [(b0, Obj.cells #[.int .i64 n, .slice p ss.length cp] 24 (0, 0))])))) 12 Tb.mixed rfl (by kernel_rfl) (by kernel_rfl) (by kernel_rfl) (by kernel_rfl) (by repeat (first | exact List.Sublist.slnil | exact List.nil_sublist _ | exact List.Sublist.refl _ | refine List.Sublist.cons_cons _ ?_ | refine List.Sublist.cons _ ?_ | refine List.Sublist.trans ?_ (List.sublist_append_right _ _))) ?_
            refine TV.virt 0 rfl rfl (by decide) rfl (by kernel_rfl) (SOK.pure (PV.loadBox (cs := [.int .i64 n, .slice p ss.length cp]) rfl Tb.agg_24 (by repeat (first | exact List.Mem.head _ | refine List.Mem.tail _ ?_ | refine List.mem_append_right _ ?_)) rfl) rfl) ?_
            refine TV.virt 1 rfl rfl (by decide) rfl (by kernel_rfl) (SOK.pure (PV.move rfl) rfl) ?_
            refine TV.virt 2 rfl rfl (by decide) rfl (by kernel_rfl) (SOK.pure (PV.move rfl) rfl) ?_
            refine TV.virt 3 rfl rfl (by decide) rfl (by kernel_rfl) (SOK.pure (PV.indexG (h := x.hb) (len := x.rb.length) (ys := rcs slR x.rb) (j := y.i) rfl rfl hx9.2.gb Tb.elm_97 rfl (by omega)) rfl) ?_
            refine TV.virt 4 rfl rfl (by decide) rfl (by kernel_rfl) (SOK.pure (PV.loadRecF (R := slR) (h := x.hb) (l := x.rb) (j := y.i) (f := 0) (v := .slice (x.rb.getD y.i default).p (x.rb.getD y.i default).l.length (x.rb.getD y.i default).c) rfl Tb.one_25 (fun yy hyy => by repeat (first | exact List.mem_append_left _ hyy | exact List.mem_append_left _ (List.mem_append_right _ hyy) | exact List.mem_append_left _ (List.mem_append_left _ hyy) | refine List.mem_append_right _ ?_ | refine List.Mem.tail _ ?_)) hx9.2.gb (by omega) (by decide) rfl) rfl) ?_
            refine TV.virt 5 rfl rfl (by decide) rfl (by kernel_rfl) (SOK.pure (PV.move rfl) rfl) ?_
            refine TV.step [6] (by kernel_rfl) (by decide) rfl ⟨⟨_, rfl, ?_⟩, trivial⟩
            refine TL.call rfl Tb.gofn_69 (fun a w hs => rdo_ok w _ _ _ _ (hr.new hs.new) _ (x.rb.getD y.i default).l (IsI.of ((hz9.2.2).at hs.new (fun y9 hy9 => by simp only [List.mem_append]; simp [hy9]) (by omega))) hVM z.i (by omega)) rfl (by decide) (fun h8 hh8 => ?_)
            refine TL.nil ?_
            refine TV.next (.inl (by repeat (first | exact List.Sublist.slnil | exact List.nil_sublist _ | exact List.Sublist.refl _ | refine List.Sublist.cons_cons _ ?_ | refine List.Sublist.cons _ ?_ | refine List.Sublist.trans ?_ (List.sublist_append_right _ _)))) ?_
            refine TV.virt 7 rfl rfl (by decide) rfl (by kernel_rfl) (SOK.pure (PV.move rfl) rfl) ?_
            refine TV.virt 8 rfl rfl (by decide) rfl (by kernel_rfl) (SOK.pure (PV.extract rfl rfl) rfl) ?_
            refine TV.virt 9 rfl rfl (by decide) rfl (by kernel_rfl) (SOK.pure (PV.extract rfl rfl) rfl) ?_
            refine TV.virt 10 rfl rfl (by decide) rfl (by kernel_rfl) (SOK.pure (PV.assign rfl) rfl) ?_
            refine TV.virt 11 rfl rfl (by decide) rfl (by kernel_rfl) (SOK.pure (PV.assign rfl) rfl) ?_
            refine TV.done (by kernel_rfl) ?_
            refine TQ.thenC ?_
            refine TC.seq ?_
            refine TC.seq ?_
            refine TC.region ?_
            refine TL.pure (PV.move rfl) rfl (by decide) ?_
            refine TL.pure (PV.neq rfl rfl) rfl (by decide) ?_
            refine TL.nil ?_
            refine TQ.thenC ?_
            first | refine TC.condD rfl (fun a3 => ?_) (fun a3 => ?_) | refine TC.cond rfl (fun a3 => ?_) (fun a3 => ?_)
            · skip
              have hst := rM_no (st := rB ss (rR ss xs x.i).2 y.i (rR ss xs x.i).1) a3
              refine TC.exit ?_
              refine TQ.thenE ?_
              refine TQ.blkS ?_
              refine TQ.thenC ?_
              refine TC.region ?_
              refine TL.pure (PV.move rfl) rfl (by decide) ?_
              refine TL.pure (PV.add rfl rfl (by omega)) rfl (by decide) ?_
              refine TL.pure (PV.assign rfl) rfl (by decide) ?_
              refine TL.nil ?_
              refine TQ.thenN ?_
              refine TQ.backK (by first | exact ⟨z.i + 1, hF, (z.rf ++ [(⟨gp h8, gc h8, doN (x.rb.getD y.i default).l (ss.getD z.i default)⟩ : SL)]), hN, (z.rb ++ [(⟨gp h8, gc h8, doN (x.rb.getD y.i default).l (ss.getD z.i default)⟩ : SL)]), gbI (h8, doN (x.rb.getD y.i default).l (ss.getD z.i default)) ++ z.bl⟩ | exact ⟨z.i + 1, z.hf, z.rf, z.hb, z.rb, z.bl⟩) (by first | exact And.intro rfl (And.intro rfl (And.intro rfl True.intro))) (by repeat (first | exact True.intro | refine And.intro rfl ?_)) (by first | exact List.sublist_append_left _ _ | exact List.sublist_append_right _ _) (by first | exact ⟨by simp only; omega, RXok.snoc hz9.2.1 hst hh8 hhF hhN, hz9.2.2.mono (fun y9 hy9 => List.mem_append_right _ hy9)⟩ | exact ⟨by simp only; omega, RXok.skip hz9.2.1 hst, hz9.2.2⟩) (by simp only; omega)
            · skip
              have a3 := Decidable.of_not_not a3
              rw [doL_0 a3] at hh8
              rw [doL_0 a3]
              have hVN : VM n ss (doN (x.rb.getD y.i default).l (ss.getD z.i default)) := hVM.next (by omega) a3
              have hml := hVN.l6
              refine TC.skip ?_
              refine TQ.thenC ?_
              refine TC.seq ?_
              refine TC.region ?_
              refine TL.pure (PV.assign rfl) rfl (by decide) ?_
              refine TL.nil ?_
              refine TQ.thenC ?_
              refine TC.seq ?_
              refine TC.seq ?_
              refine TC.region ?_
              refine TL.pure (PV.assign rfl) rfl (by decide) ?_
              refine TL.nil ?_
              refine TQ.thenC ?_
              refine TC.block ?_
              refine TC.lit [(2, _), (3, _), (6, _), (7, _), (9, _), (10, _), (11, _), (12, _), (13, _), (14, _), (15, _), (17, _), (18, _)] (by repeat (first | exact True.intro | refine And.intro rfl ?_)) ?_
              refine TC.loopG [2, 3, 6, 7, 9, 10, 11, 12, 13, 14, 15] (X := Nat) (fun q => q ≤ z.rf.length) (fun q => [(18, .int .i64 q), (17, .bool (decide (doN (x.rb.getD y.i default).l (ss.getD z.i default) ∈ (z.rf.map SL.l).take q)))]) (fun q => z.rf.length - q) 0 (Nat.zero_le _) (And.intro rfl (And.intro (by show some (Value.bool false) = some (Value.bool (decide _)); rw [List.take_zero]; simp) True.intro)) ?_
              intro q hq9
              refine TC.lit [(2, _), (3, _), (6, _), (7, _), (9, _), (10, _), (11, _), (12, _), (13, _), (14, _), (15, _), (17, _), (18, _)] (by repeat (first | exact True.intro | refine And.intro rfl ?_)) ?_
              refine TC.seq ?_
              refine TC.seq ?_
              refine TC.region ?_
              refine TL.pure (PV.move rfl) rfl (by decide) ?_
              refine TL.pure (PV.move rfl) rfl (by decide) ?_
              refine TL.pure (PV.lenG (h := z.hf) (len := z.rf.length) (ys := rcs slR z.rf) rfl hz9.2.1.gf Tb.sl_97) rfl (by decide) ?_
              refine TL.pure (PV.lss rfl rfl) rfl (by decide) ?_
              refine TL.nil ?_
              refine TQ.thenC ?_
              first | refine TC.condD rfl (fun hlt4 => ?_) (fun hlt4 => ?_) | refine TC.cond rfl (fun hlt4 => ?_) (fun hlt4 => ?_)
              · skip
                refine TC.skip ?_
                refine TQ.thenC ?_
                refine TC.seq ?_
                refine TC.block ?_
                have hVq : VM n ss (z.rf.getD q default).l := by rw [map_getD hz9.2.1.f (by omega)]; exact getD_vm hV2.f (by omega)
                have hq6 := hVq.l6
                refine TC.region ?_
                refine TL.pure (PV.move rfl) rfl (by decide) ?_
                refine TL.pure (PV.move rfl) rfl (by decide) ?_
                first | refine TL.splitD 69 rfl (fun g9 => ?_) (fun g9 => ?_) | refine TL.split 69 rfl (fun g9 => ?_) (fun g9 => ?_)
                · skip
                  refine TL.skip rfl (fun k hk => by cases hk; decide) ?_
                  refine TL.skip rfl (fun k hk => by cases hk; decide) ?_
                  refine TL.skip rfl (fun k hk => by cases hk; decide) ?_
                  refine TL.skip rfl (fun k hk => by cases hk; decide) ?_
                  refine TL.skip rfl (fun k hk => by cases hk; decide) ?_
                  refine TL.skip rfl (fun k hk => by cases hk; decide) ?_
                  refine TL.pure (PV.pickT rfl rfl) rfl (by decide) ?_
                  refine TL.pure (PV.assign rfl) rfl (by decide) ?_
                  refine TL.nil ?_
                  refine TQ.blkN ?_
                  refine TQ.thenC ?_
                  refine TC.region ?_
                  refine TL.pure (PV.move rfl) rfl (by decide) ?_
                  refine TL.pure (PV.add rfl rfl (by omega)) rfl (by decide) ?_
                  refine TL.pure (PV.assign rfl) rfl (by decide) ?_
                  refine TL.nil ?_
                  refine TQ.thenN ?_
                  refine TQ.backK (q + 1) (And.intro rfl (And.intro (by show some _ = some (Value.bool (decide (doN (x.rb.getD y.i default).l (ss.getD z.i default) ∈ (z.rf.map SL.l).take (q + 1)))); have h5 := mem_take (F := z.rf.map SL.l) (m := doN (x.rb.getD y.i default).l (ss.getD z.i default)) (q := q) (by rw [List.length_map]; omega); rw [← map_getD rfl (by omega)] at h5; simp only [h5]; simp_all) True.intro)) (by repeat (first | exact True.intro | refine And.intro rfl ?_)) (by repeat (first | exact List.Sublist.slnil | exact List.nil_sublist _ | exact List.Sublist.refl _ | refine List.Sublist.cons_cons _ ?_ | refine List.Sublist.cons _ ?_ | refine List.Sublist.trans ?_ (List.sublist_append_right _ _))) (by omega) (by omega)
                · skip
                  refine TL.pure (PV.move rfl) rfl (by decide) ?_
                  refine TL.pure (PV.move rfl) rfl (by decide) ?_
                  refine TL.pure (PV.indexG (h := z.hf) (len := z.rf.length) (ys := rcs slR z.rf) (j := q) rfl rfl hz9.2.1.gf Tb.elm_97 rfl (by omega)) rfl (by decide) ?_
                  refine TL.pure (PV.loadRecF (R := slR) (h := z.hf) (l := z.rf) (j := q) (f := 0) (v := .slice (z.rf.getD q default).p (z.rf.getD q default).l.length (z.rf.getD q default).c) rfl Tb.one_25 (fun yy hyy => by repeat (first | exact List.mem_append_left _ hyy | exact List.mem_append_left _ (List.mem_append_right _ hyy) | exact List.mem_append_left _ (List.mem_append_left _ hyy) | refine List.mem_append_right _ ?_ | refine List.Mem.tail _ ?_)) hz9.2.1.gf (by omega) (by decide) rfl) rfl (by decide) ?_
                  refine TL.pure (PV.move rfl) rfl (by decide) ?_
                  refine TL.call rfl Tb.gofn_90 (fun a w hs => (by rw [gval_eq hh8]; exact same_ok w _ _ _ (hz9.2.1.of.at hs.new (fun y9 hy9 => by simp only [List.mem_append]; simp [hy9]) (by omega)) _ _ _ (IntsAt.g (x := (h8, doN (x.rb.getD y.i default).l (ss.getD z.i default))) hs.new (fun yy hyy => by repeat (first | exact List.mem_append_left _ hyy | exact List.mem_append_left _ (List.mem_append_right _ hyy) | exact List.mem_append_left _ (List.mem_append_left _ hyy) | refine List.mem_append_right _ ?_ | refine List.Mem.tail _ ?_)) hh8) (by omega) (show (doN (x.rb.getD y.i default).l (ss.getD z.i default)).length ≤ 1000000 by omega))) rfl (by decide) (fun _ _ => ?_)
                  refine TL.pure (PV.pickF rfl rfl) rfl (by decide) ?_
                  refine TL.pure (PV.assign rfl) rfl (by decide) ?_
                  refine TL.nil ?_
                  refine TQ.blkN ?_
                  refine TQ.thenC ?_
                  refine TC.region ?_
                  refine TL.pure (PV.move rfl) rfl (by decide) ?_
                  refine TL.pure (PV.add rfl rfl (by omega)) rfl (by decide) ?_
                  refine TL.pure (PV.assign rfl) rfl (by decide) ?_
                  refine TL.nil ?_
                  refine TQ.thenN ?_
                  refine TQ.backK (q + 1) (And.intro rfl (And.intro (by show some _ = some (Value.bool (decide (doN (x.rb.getD y.i default).l (ss.getD z.i default) ∈ (z.rf.map SL.l).take (q + 1)))); have h5 := mem_take (F := z.rf.map SL.l) (m := doN (x.rb.getD y.i default).l (ss.getD z.i default)) (q := q) (by rw [List.length_map]; omega); rw [← map_getD rfl (by omega)] at h5; simp only [h5]; simp_all) True.intro)) (by repeat (first | exact True.intro | refine And.intro rfl ?_)) (by repeat (first | exact List.Sublist.slnil | exact List.nil_sublist _ | exact List.Sublist.refl _ | refine List.Sublist.cons_cons _ ?_ | refine List.Sublist.cons _ ?_ | refine List.Sublist.trans ?_ (List.sublist_append_right _ _))) (by omega) (by omega)
              · skip
                refine TC.exit ?_
                refine TQ.thenE ?_
                refine TQ.thenE ?_
                refine TQ.blkS ?_
                refine TQ.thenC ?_
                refine TC.seq ?_
                have hqe : q = z.rf.length := by omega
                have htk : (z.rf.map SL.l).take q = (rM ss (x.rb.getD y.i default).l z.i (rB ss (rR ss xs x.i).2 y.i (rR ss xs x.i).1)).1 := by rw [hqe, ← List.length_map (f := SL.l), List.take_length, hz9.2.1.f]
                refine TC.region ?_
                refine TL.pure (PV.move rfl) rfl (by decide) ?_
                refine TL.pure ((by first | exact PV.notD rfl | exact PV.not rfl)) rfl (by decide) ?_
                refine TL.nil ?_
                refine TQ.thenC ?_
                first | refine TC.condD rfl (fun a4 => ?_) (fun a4 => ?_) | refine TC.cond rfl (fun a4 => ?_) (fun a4 => ?_)
                · skip
                  have hme : doN (x.rb.getD y.i default).l (ss.getD z.i default) ∉ (rM ss (x.rb.getD y.i default).l z.i (rB ss (rR ss xs x.i).2 y.i (rR ss xs x.i).1)).1 := by rw [← htk]; simpa using a4
                  have hst := rM_new a3 hme
                  refine TC.seq ?_
                  refine TC.region ?_
                  refine TL.pure (PV.move rfl) rfl (by decide) ?_
                  refine TL.pure (PV.move rfl) rfl (by decide) ?_
                  refine TL.buildSlice (cs := #[gval h8 (doN (x.rb.getD y.i default).l (ss.getD z.i default)).length]) rfl Tb.sl_97 Tb.zi_25 (by decide) (by rw [gval_eq hh8]; exact fill_o _ _ _) (by decide) rfl (by decide) (fun bE hbE => ?_)
                  refine TL.appendRec (R := slR) (h0 := z.hf) (ys := z.rf) (b := bE) (r := (⟨gp h8, gc h8, doN (x.rb.getD y.i default).l (ss.getD z.i default)⟩ : SL)) Tb.sl_97 Tb.zi_25 rfl rfl rfl (by rw [gval_eq hh8]; exact (by repeat (first | exact List.Mem.head _ | refine List.Mem.tail _ ?_ | refine List.mem_append_right _ ?_))) hz9.2.1.gf (by repeat (first | exact TakeH.here _ _ _ _ | apply TakeH.tail | apply TakeH.app)) (by omega) (by omega) rfl (by decide) (fun hF hhF => ?_)
                  refine TL.pure (PV.assign rfl) rfl (by decide) ?_
                  refine TL.nil ?_
                  refine TQ.thenC ?_
                  refine TC.region ?_
                  refine TL.pure (PV.move rfl) rfl (by decide) ?_
                  refine TL.pure (PV.move rfl) rfl (by decide) ?_
                  refine TL.buildSlice (cs := #[gval h8 (doN (x.rb.getD y.i default).l (ss.getD z.i default)).length]) rfl Tb.sl_97 Tb.zi_25 (by decide) (by rw [gval_eq hh8]; exact fill_o _ _ _) (by decide) rfl (by decide) (fun bE2 hbE2 => ?_)
                  refine TL.appendRec (R := slR) (h0 := z.hb) (ys := z.rb) (b := bE2) (r := (⟨gp h8, gc h8, doN (x.rb.getD y.i default).l (ss.getD z.i default)⟩ : SL)) Tb.sl_97 Tb.zi_25 rfl rfl rfl (by rw [gval_eq hh8]; exact (by repeat (first | exact List.Mem.head _ | refine List.Mem.tail _ ?_ | refine List.mem_append_right _ ?_))) hz9.2.1.gb (by repeat (first | exact TakeH.here _ _ _ _ | apply TakeH.tail | apply TakeH.app)) (by omega) (by omega) rfl (by decide) (fun hN hhN => ?_)
                  refine TL.perm (G' := (gbR slR 25 hF (z.rf ++ [(⟨gp h8, gc h8, doN (x.rb.getD y.i default).l (ss.getD z.i default)⟩ : SL)]) ++ (gbR slR 25 hN (z.rb ++ [(⟨gp h8, gc h8, doN (x.rb.getD y.i default).l (ss.getD z.i default)⟩ : SL)]) ++ (gbR slR 25 x.hb x.rb ++ ((gbI (h8, doN (x.rb.getD y.i default).l (ss.getD z.i default)) ++ z.bl) ++ [(b0, Obj.cells #[.int .i64 n, .slice p ss.length cp] 24 (0, 0))])))) ++ [(bE2, Obj.cells #[gval h8 (doN (x.rb.getD y.i default).l (ss.getD z.i default)).length] 25 (0, 0)), (bE, Obj.cells #[gval h8 (doN (x.rb.getD y.i default).l (ss.getD z.i default)).length] 25 (0, 0))]) (perm_of fun c9 => by simp only [List.map_append, List.sum_append, List.map_cons, List.sum_cons, List.map_nil, List.sum_nil]; omega) ?_
                  refine TL.pure (PV.assign rfl) rfl (by decide) ?_
                  refine TL.nil ?_
                  refine TQ.blkN ?_
                  refine TQ.thenC ?_
                  refine TC.region ?_
                  refine TL.pure (PV.move rfl) rfl (by decide) ?_
                  refine TL.pure (PV.add rfl rfl (by omega)) rfl (by decide) ?_
                  refine TL.pure (PV.assign rfl) rfl (by decide) ?_
                  refine TL.nil ?_
                  refine TQ.thenN ?_
                  refine TQ.backK (by first | exact ⟨z.i + 1, hF, (z.rf ++ [(⟨gp h8, gc h8, doN (x.rb.getD y.i default).l (ss.getD z.i default)⟩ : SL)]), hN, (z.rb ++ [(⟨gp h8, gc h8, doN (x.rb.getD y.i default).l (ss.getD z.i default)⟩ : SL)]), gbI (h8, doN (x.rb.getD y.i default).l (ss.getD z.i default)) ++ z.bl⟩ | exact ⟨z.i + 1, z.hf, z.rf, z.hb, z.rb, z.bl⟩) (by first | exact And.intro rfl (And.intro rfl (And.intro rfl True.intro))) (by repeat (first | exact True.intro | refine And.intro rfl ?_)) (by first | exact List.sublist_append_left _ _ | exact List.sublist_append_right _ _) (by first | exact ⟨by simp only; omega, RXok.snoc hz9.2.1 hst hh8 hhF hhN, hz9.2.2.mono (fun y9 hy9 => List.mem_append_right _ hy9)⟩ | exact ⟨by simp only; omega, RXok.skip hz9.2.1 hst, hz9.2.2⟩) (by simp only; omega)
                · skip
                  have hme : doN (x.rb.getD y.i default).l (ss.getD z.i default) ∈ (rM ss (x.rb.getD y.i default).l z.i (rB ss (rR ss xs x.i).2 y.i (rR ss xs x.i).1)).1 := by rw [← htk]; simpa using a4
                  have hst := rM_old hme
                  refine TC.skip ?_
                  refine TQ.blkN ?_
                  refine TQ.thenC ?_
                  refine TC.region ?_
                  refine TL.pure (PV.move rfl) rfl (by decide) ?_
                  refine TL.pure (PV.add rfl rfl (by omega)) rfl (by decide) ?_
                  refine TL.pure (PV.assign rfl) rfl (by decide) ?_
                  refine TL.nil ?_
                  refine TQ.thenN ?_
                  refine TQ.backK (by first | exact ⟨z.i + 1, hF, (z.rf ++ [(⟨gp h8, gc h8, doN (x.rb.getD y.i default).l (ss.getD z.i default)⟩ : SL)]), hN, (z.rb ++ [(⟨gp h8, gc h8, doN (x.rb.getD y.i default).l (ss.getD z.i default)⟩ : SL)]), gbI (h8, doN (x.rb.getD y.i default).l (ss.getD z.i default)) ++ z.bl⟩ | exact ⟨z.i + 1, z.hf, z.rf, z.hb, z.rb, z.bl⟩) (by first | exact And.intro rfl (And.intro rfl (And.intro rfl True.intro))) (by repeat (first | exact True.intro | refine And.intro rfl ?_)) (by first | exact List.sublist_append_left _ _ | exact List.sublist_append_right _ _) (by first | exact ⟨by simp only; omega, RXok.snoc hz9.2.1 hst hh8 hhF hhN, hz9.2.2.mono (fun y9 hy9 => List.mem_append_right _ hy9)⟩ | exact ⟨by simp only; omega, RXok.skip hz9.2.1 hst, hz9.2.2⟩) (by simp only; omega)
          · skip
            refine TC.exit ?_
            refine TQ.thenE ?_
            refine TQ.thenE ?_
            refine TQ.blkS ?_
            refine TQ.blkN ?_
            refine TQ.thenC ?_
            have hze : z.i = ss.length := by omega
            refine TC.region ?_
            refine TL.pure (PV.move rfl) rfl (by decide) ?_
            refine TL.pure (PV.add rfl rfl (by omega)) rfl (by decide) ?_
            refine TL.pure (PV.assign rfl) rfl (by decide) ?_
            refine TL.nil ?_
            refine TQ.thenN ?_
            refine TQ.backK ⟨y.i + 1, z.hf, z.rf, z.hb, z.rb, z.bl⟩ (by repeat (first | exact True.intro | refine And.intro rfl ?_)) (by repeat (first | exact True.intro | refine And.intro rfl ?_)) (by repeat (first | exact List.Sublist.slnil | exact List.nil_sublist _ | exact List.Sublist.refl _ | refine List.Sublist.cons_cons _ ?_ | refine List.Sublist.cons _ ?_ | refine List.Sublist.trans ?_ (List.sublist_append_right _ _))) ⟨by simp only; omega, by rw [hze, hrl] at hz9; exact ⟨⟨hz9.2.1.f, hz9.2.1.b, hz9.2.1.gf, hz9.2.1.gb, hz9.2.1.of, hz9.2.1.ob⟩, hz9.2.2⟩⟩ (by simp only; omega)
        · skip
          refine TC.exit ?_
          refine TQ.thenE ?_
          refine TQ.thenE ?_
          refine TQ.blkS ?_
          refine TQ.thenC ?_
          have hye : y.i = x.rb.length := by omega
          refine TC.region ?_
          refine TL.pure (PV.move rfl) rfl (by decide) ?_
          refine TL.pure (PV.assign rfl) rfl (by decide) ?_
          refine TL.nil ?_
          refine TQ.blkN ?_
          refine TQ.thenC ?_
          refine TC.region ?_
          refine TL.pure (PV.move rfl) rfl (by decide) ?_
          refine TL.pure (PV.add rfl rfl (by omega)) rfl (by decide) ?_
          refine TL.pure (PV.assign rfl) rfl (by decide) ?_
          refine TL.nil ?_
          refine TQ.thenN ?_
          refine TQ.backK ⟨x.i + 1, y.hf, y.rf, y.hb, y.rb, y.bl⟩ (by repeat (first | exact True.intro | refine And.intro rfl ?_)) (by repeat (first | exact True.intro | refine And.intro rfl ?_)) (List.Sublist.append_left (List.Sublist.append_left (List.sublist_append_right _ _) _) _) ⟨by simp only; omega, by rw [hye, hlx] at hy9; exact ⟨hy9.2.1.f, hy9.2.1.b, hy9.2.1.gf, hy9.2.1.gb, hy9.2.1.of, hy9.2.1.ob⟩⟩ (by simp only; omega)
      · skip
        refine TC.exit ?_
        refine TQ.thenE ?_
        refine TQ.thenE ?_
        refine TQ.blkS ?_
        refine TQ.thenC ?_
        refine TC.seq ?_
        have hxe : x.i = N := by omega
        have hlx := map_lenL hx9.2.f
        refine TC.region ?_
        refine TL.pure (PV.move rfl) rfl (by decide) ?_
        refine TL.pure (PV.lenG (h := x.hf) (len := x.rf.length) (ys := rcs slR x.rf) rfl hx9.2.gf Tb.sl_97) rfl (by decide) ?_
        refine TL.pure (PV.assign rfl) rfl (by decide) ?_
        refine TL.pure (PV.assign rfl) rfl (by decide) ?_
        refine TL.nil ?_
        refine TQ.thenC ?_
        refine TC.ret ?_
        refine TQ.retE2 rfl rfl rfl ?_
        exact ⟨(), by rw [e9, hlx, hxe], trivial, List.nil_sublist _⟩

end Go.Proofs.Ytkkipbkkijoneaa
