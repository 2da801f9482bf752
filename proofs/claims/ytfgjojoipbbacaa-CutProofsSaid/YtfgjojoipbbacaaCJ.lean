/- All right hollows and what they are worth: contract. -/
import Derived.Test.YtfgjojoipbbacaaCM
set_option linter.unusedVariables false
set_option linter.unusedSimpArgs false
namespace Go.Sx
open Go.RowKit Go.Proofs.Ytfgjojoipbbacaa
section
variable {P : Program} {n : Nat} {w0 : World} {E : Env} {G : Heap} {d : Option Nat} {ty : TypeId} {pos : String} {aft : Array Edge} {g : Option (Nat × Bool)}
/-- The zero value, as a literal with nothing in it. -/
theorem PV.build0 {t m e sz : Nat} {a : Array Value} (hz : zeroOf P t = some (.agg a)) (ha : arrOf P t = some (m, e, sz)) : PV P n w0 E G ⟨d, .build t #[], ty, pos, aft, g⟩ (.agg a) :=
  fun A w hs => by
    unfold arrOf at ha
    cases hu : P.underlying t with
    | none => simp [hu] at ha
    | some u =>
      cases u <;> simp only [hu] at ha <;> try (simp at ha; done)
      rename_i m' e'
      cases hi2 : P.info? e' with
      | none => simp [hi2] at ha
      | some inf =>
        have hzr := zero_run hz w
        simp only [execOp]
        simp [Instr.build, hzr, run_underlying hu, sizeOf, typeInfo, hi2, Instr.fill, Value.cells]
/-- A number of a grown slice, loaded. -/
theorem PV.loadGI {x : Operand} {j t : Nat} {y : HD × List Int} {v : Int} (hx : evo E x = some (.pointer (some ⟨(y.1.map (·.1)).getD 0, j * 1, none⟩))) (ht : oneB P t = true)
    (hm : ∀ q ∈ gbI y, q ∈ G) (hok : goI y) (hj : j < y.2.length) (hv : y.2.getD j 0 = v) : PV P n w0 E G ⟨d, .load t x, ty, pos, aft, g⟩ (.int .i64 v) := by
  subst hv
  obtain ⟨h, l⟩ := y
  cases h with
  | none => exact absurd hok.2 (by simp only [List.length_map] at hj ⊢; omega)
  | some hh =>
    obtain ⟨b, cap, sp⟩ := hh
    simp only [Option.map_some, Option.getD_some, Nat.mul_one] at hx
    exact PV.loadG' hx ht (hm _ (.head _)) (app_get hj)
end
end Go.Sx
namespace Go.Proofs.Ytfgjojoipbbacaa
open Go.Sx Go.RowKit
def hR : Rec Hv where
  cells := fun r => r.toList.map (Value.int .i64)
  sz := 6
  len := fun r => by simp
  one := fun r v hv => by obtain ⟨i, _, rfl⟩ := List.mem_map.1 hv; rfl
  pos := by decide
theorem key_69 : KeyT Try.prog 69 6 := ⟨3, 3, (Try.prog.info? 3).get (by kernel_rfl), by kernel_rfl, by kernel_rfl, (Option.some_get _).symm, by kernel_rfl, by kernel_rfl, rfl⟩
theorem map_79 : Try.prog.underlying 79 = some (.map 69 3) := by kernel_rfl
theorem fill_h0 : Instr.fill (fun i => some (i * 6, 6)) ((Array.range (1 * 6)).map ((Value.agg #[(.int .i64 0), (.int .i64 0), (.int .i64 0), (.int .i64 0), (.int .i64 0), (.int .i64 0)]).cells[· % (Value.agg #[(.int .i64 0), (.int .i64 0), (.int .i64 0), (.int .i64 0), (.int .i64 0), (.int .i64 0)]).cells.size]!)) [(0, .agg (intsA Zl))] = some (intsA Zl) := by kernel_rfl
theorem fill_h6 (a b c d e f : Int) : Instr.fill (fun i => some (i * 6, 6)) ((Array.range (1 * 6)).map ((Value.agg #[(.int .i64 0), (.int .i64 0), (.int .i64 0), (.int .i64 0), (.int .i64 0), (.int .i64 0)]).cells[· % (Value.agg #[(.int .i64 0), (.int .i64 0), (.int .i64 0), (.int .i64 0), (.int .i64 0), (.int .i64 0)]).cells.size]!)) [(0, .agg (intsA [a, b, c, d, e, f]))] = some (intsA [a, b, c, d, e, f]) := by kernel_rfl
theorem fill_h1 (xs : List Int) (hx : xs.length = 6) : Instr.fill (fun i => some (i * 6, 6)) ((Array.range (1 * 6)).map ((Value.agg #[(.int .i64 0), (.int .i64 0), (.int .i64 0), (.int .i64 0), (.int .i64 0), (.int .i64 0)]).cells[· % (Value.agg #[(.int .i64 0), (.int .i64 0), (.int .i64 0), (.int .i64 0), (.int .i64 0), (.int .i64 0)]).cells.size]!)) [(0, .agg (intsA xs))] = some (intsA xs) := by
  match xs, hx with
  | [a, b, c, d, e, f], _ => exact fill_h6 a b c d e f
theorem perm_row {α : Type} (A : List α) (r t : α) (R : List α) : List.Perm (r :: (A ++ t :: R)) (A ++ t :: r :: R) := by
  have := (List.perm_middle (a := r) (l₁ := A ++ [t]) (l₂ := R)).symm
  simpa using this
theorem hdr_some {h : HD} {l : List Hv} (ho : goR hR h l) (hl : 0 < l.length) : ∃ b c s, h = some (b, c, s) := by
  obtain _ | ⟨b, c, s⟩ := h
  · have : l.length = 0 := ho.2
    omega
  · exact ⟨b, c, s, rfl⟩
theorem snoc_of {l : List Hv} (h : 0 < l.length) : ∃ l' x, l = l' ++ [x] := ⟨l.dropLast, l.getLast (by intro e; subst e; simp at h), (List.dropLast_concat_getLast _).symm⟩
theorem pop_blk {b c : Nat} {s : List Value} {l : List Hv} {x : Hv} : gbR hR 69 (some (b, c, s)) (l ++ [x]) = gbR hR 69 (some (b, c, hR.cells x ++ s)) l := by
  show [(b, Obj.cells (rcs hR (l ++ [x]) ++ s).toArray 69 (0, 0))] = [(b, Obj.cells (rcs hR l ++ (hR.cells x ++ s)).toArray 69 (0, 0))]
  rw [rcs_app, List.append_assoc]
  simp [rcs]
theorem pop_ok {b c : Nat} {s : List Value} {l : List Hv} {x : Hv} (h : goR hR (some (b, c, s)) (l ++ [x])) : goR hR (some (b, c, hR.cells x ++ s)) l := by
  obtain ⟨h1, h2, h3⟩ := h
  have e1 := rcs_len (R := hR) l
  have e2 := rcs_len (R := hR) (l ++ [x])
  have e3 := hR.len x
  rw [List.length_append, List.length_singleton] at h3 e2
  refine ⟨e1, ?_, by omega⟩
  rw [h2, e2, List.length_append, e3, e1, Nat.add_mul]
  omega


set_option maxRecDepth 100000 in
set_option maxHeartbeats 4000000 in
theorem worths_ok (w0 : World) (p : Option Addr) (cap : Nat) (ls : List (List Int)) (hr : LsAt w0 p ls) (hb : VB ls) :
    Calls Try.prog 81 #[bv p ls.length cap] w0 (Post (X := Nat × List Ent) (fun y => .map (some y.1)) (fun y => WI ls y.2 []) (fun y => [(y.1, mobj y.2)]) w0) := by
  have hn := hb.n
  have hd := hb.d
  refine calls Try.func81 rfl (n := 71) rfl (by simp) ?_
  refine TC.seq ?_
  refine TC.region ?_
  refine TL.box rfl rfl (by decide) (fun b0 hb0 => ?_)
  refine TL.pure (PV.assign rfl) rfl (by decide) ?_
  refine TL.nil ?_
  refine TQ.thenC ?_
  refine TC.seq ?_
  refine TC.region ?_
  refine TL.makeMap rfl (by decide) (fun b1 hb1 => ?_)
  refine TL.pure (PV.build0 Tb.zero_69 arr_69) rfl (by decide) ?_
  refine TL.insertE (es := []) (xs := Zl) (v := 0) key_69 map_79 rfl rfl rfl rfl (by simp) rfl (by repeat (first | exact Upd.head _ | apply Upd.tail | apply Upd.appR)) rfl rfl ?_
  refine TL.pure (PV.move rfl) rfl (by decide) ?_
  refine TL.pure (PV.assign rfl) rfl (by decide) ?_
  refine TL.nil ?_
  refine TQ.thenC ?_
  refine TC.seq ?_
  refine TC.region ?_
  refine TL.pure (PV.build0 Tb.zero_69 arr_69) rfl (by decide) ?_
  refine TL.buildSlice (cs := intsA Zl) rfl Tb.sl_82 Tb.zi_69 (by decide) fill_h0 (by decide) rfl (by decide) (fun b2 hb2 => ?_)
  refine TL.pure (PV.assign rfl) rfl (by decide) ?_
  refine TL.nil ?_
  refine TQ.thenC ?_
  refine TC.seq ?_
  refine TC.block ?_
  refine TC.lit [(1, _), (2, _), (3, _), (4, _)] (by repeat (first | exact True.intro | refine And.intro rfl ?_)) ?_
  refine TC.loopK [1, 2, 3] (X := HD × List Hv × List Ent) (fun v => WI ls v.2.2 v.2.1 ∧ goR hR v.1 v.2.1) (fun v => [(4, gval v.1 v.2.1.length)]) (fun v => gbR hR 69 v.1 v.2.1 ++ [(b1, mobj v.2.2), (b0, Obj.cells #[.slice p ls.length cap] 24 (0, 0))]) (fun v => 40000 - (2 * v.2.2.length - v.2.1.length)) (some (b2, 1, []), [mkV Zl rfl], [(Zl, 0)]) ⟨WI.zero_ hb, ⟨rfl, rfl, Nat.le_refl _⟩⟩ (by repeat (first | exact True.intro | refine And.intro rfl ?_)) (by repeat (first | exact List.Sublist.slnil | exact List.nil_sublist _ | exact List.Sublist.refl _ | exact List.sublist_append_left _ _ | refine List.Sublist.cons_cons _ ?_ | refine (List.append_sublist_append_left _).2 ?_ | refine List.Sublist.cons _ ?_ | refine List.Sublist.trans ?_ (List.sublist_append_right _ _))) ?_
  rintro ⟨h, l, es⟩ ⟨hv, hg⟩
  refine TC.lit [(1, _), (2, _), (3, _), (4, _)] (by repeat (first | exact True.intro | refine And.intro rfl ?_)) ?_
  refine TC.seq ?_
  refine TC.seq ?_
  refine TC.region ?_
  refine TL.pure (PV.move rfl) rfl (by decide) ?_
  refine TL.pure (PV.lenG (h := h) (len := l.length) rfl hg Tb.sl_82) rfl (by decide) ?_
  refine TL.pure (PV.gtr rfl rfl) rfl (by decide) ?_
  refine TL.nil ?_
  refine TQ.thenC ?_
  first | refine TC.condD rfl (fun hpos => ?_) (fun hpos => ?_) | refine TC.cond rfl (fun hpos => ?_) (fun hpos => ?_)
  · skip
    obtain ⟨l', x, rfl⟩ := snoc_of (l := l) (by first | omega | (simp only at hpos; omega))
    obtain ⟨b9, c9, s9, rfl⟩ := hdr_some hg (by simp)
    have hll := WI.len_ hb hv
    have hg2 := pop_ok hg
    refine TC.skip ?_
    refine TQ.thenC ?_
    refine TC.block ?_
    refine TC.seq ?_
    refine TC.region ?_
    refine TL.pure (PV.move rfl) rfl (by decide) ?_
    refine TL.pure (PV.move rfl) rfl (by decide) ?_
    refine TL.pure (PV.len rfl Tb.sl_82) rfl (by decide) ?_
    refine TL.pure (PV.sub rfl rfl (by omega)) rfl (by decide) ?_
    refine TL.pure (PV.indexG (h := some (b9, c9, s9)) (len := (l' ++ [x]).length) (j := l'.length) rfl rfl hg Tb.elm_82 (by simp) (by simp)) rfl (by decide) ?_
    refine TL.pure (PV.loadRec (R := hR) (h := some (b9, c9, s9)) (l := l' ++ [x]) (j := l'.length) (r := x) rfl Tb.agg_69 (fun yy hyy => by repeat (first | exact List.mem_append_left _ hyy | refine List.mem_append_right _ ?_ | refine List.Mem.tail _ ?_)) hg (by simp) (by simp)) rfl (by decide) ?_
    refine TL.alloc Tb.zero_69 rfl (by decide) (fun b3 hb3 => ?_)
    refine TL.storeAgg (vs := x.toList.map (Value.int .i64)) rfl rfl Tb.cells_69 (by repeat (first | exact Upd.head _ | apply Upd.tail | apply Upd.appR)) (map_len (by simp)) rfl (ints_one _) rfl rfl ?_
    refine TL.nil ?_
    refine TQ.thenC ?_
    refine TC.seq ?_
    refine TC.region ?_
    refine TL.pure (PV.move rfl) rfl (by decide) ?_
    refine TL.pure (PV.move rfl) rfl (by decide) ?_
    refine TL.pure (PV.len rfl Tb.sl_82) rfl (by decide) ?_
    refine TL.pure (PV.sub rfl rfl (by omega)) rfl (by decide) ?_
    refine TL.pure (PV.sliceHb (h := l'.length) rfl rfl Tb.elm_82 (by simp) (by have := hg.2.2; simp at this; omega)) rfl (by decide) ?_
    refine TL.pure (PV.assign rfl) rfl (by decide) ?_
    refine TL.nil ?_
    refine TQ.thenC ?_
    refine TC.seq ?_
    refine TC.region ?_
    refine TL.pure (PV.loadBox rfl Tb.agg_24 (by repeat (first | exact List.Mem.head _ | refine List.Mem.tail _ ?_ | refine List.mem_append_right _ ?_)) rfl) rfl (by decide) ?_
    refine TL.pure (PV.loadBox (cs := x.toList.map (Value.int .i64)) rfl Tb.agg_69 (by repeat (first | exact List.Mem.head _ | refine List.Mem.tail _ ?_ | refine List.mem_append_right _ ?_)) (map_len (by simp))) rfl (by decide) ?_
    refine TL.call rfl Tb.gofn_86 (fun a w hs => open_ok w _ _ _ (hr.new hs.new) hn x.toList (by simp)) rfl (by decide) (fun h9 hh9 => ?_)
    refine TL.pure (PV.lenG (h := h9) (len := (opN ls x.toList ls.length).length) rfl hh9 Tb.sl_25) rfl (by decide) ?_
    refine TL.pure (PV.move rfl) rfl (by decide) ?_
    refine TL.nil ?_
    refine TQ.thenC ?_
    refine TC.block ?_
    refine TC.lit [(1, _), (2, _), (3, _), (4, _), (5, _), (32, _), (33, _), (34, _)] (by repeat (first | exact True.intro | refine And.intro rfl ?_)) ?_
    refine TC.perm (G' := gbR hR 69 (some (b9, c9, hR.cells x ++ s9)) l' ++ (gbI (h9, (opN ls x.toList ls.length)) ++ [(b3, Obj.cells (intsA x.toList) 69 (0, 0)), (b1, mobj es), (b0, Obj.cells #[.slice p ls.length cap] 24 (0, 0))])) (by rw [← pop_blk]; exact perm_row _ _ _ _) ?_
    refine TC.loopK [1, 2, 3, 5, 32, 33] (X := Nat × HD × List Hv × List Ent) (fun u => WJ ls x u.1 u.2.2.2 u.2.2.1 es.length l'.length ∧ goR hR u.2.1 u.2.2.1) (fun u => [(34, .int .i64 u.1), (4, gval u.2.1 u.2.2.1.length)]) (fun u => gbR hR 69 u.2.1 u.2.2.1 ++ (gbI (h9, (opN ls x.toList ls.length)) ++ [(b3, Obj.cells (intsA x.toList) 69 (0, 0)), (b1, mobj u.2.2.2), (b0, Obj.cells #[.slice p ls.length cap] 24 (0, 0))])) (fun u => (opN ls x.toList ls.length).length - u.1) (0, some (b9, c9, hR.cells x ++ s9), l', es) ⟨hv.pop, pop_ok hg⟩ (by repeat (first | exact True.intro | refine And.intro rfl ?_)) (by repeat (first | exact List.Sublist.slnil | exact List.nil_sublist _ | exact List.Sublist.refl _ | exact List.sublist_append_left _ _ | refine List.Sublist.cons_cons _ ?_ | refine (List.append_sublist_append_left _).2 ?_ | refine List.Sublist.cons _ ?_ | refine List.Sublist.trans ?_ (List.sublist_append_right _ _))) ?_
    rintro u ⟨hu, hug⟩
    refine TC.lit [(1, _), (2, _), (3, _), (4, _), (5, _), (32, _), (33, _), (34, _)] (by repeat (first | exact True.intro | refine And.intro rfl ?_)) ?_
    refine TC.seq ?_
    refine TC.region ?_
    refine TL.pure (PV.lss rfl rfl) rfl (by decide) ?_
    refine TL.nil ?_
    refine TQ.thenC ?_
    refine TC.seq ?_
    first | refine TC.condD rfl (fun hlt2 => ?_) (fun hlt2 => ?_) | refine TC.cond rfl (fun hlt2 => ?_) (fun hlt2 => ?_)
    · skip
      refine TC.skip ?_
      refine TQ.thenC ?_
      refine TC.seq ?_
      refine TC.block ?_
      refine TC.seq ?_
      obtain ⟨c, hcn, hce, hco⟩ := op_get (ls := ls) (xs := x.toList) (n := ls.length) (u := u.1) (by omega)
      obtain ⟨v1, v2, hrh⟩ := WJ.val hb hu
      have hrg := hrh.rng c hcn
      have hul := WJ.len_ hb hu
      have hcne := op_ne hco
      have hol := op_len ls x.toList ls.length
      refine TC.region ?_
      refine TL.pure (PV.indexG (h := h9) (len := (opN ls x.toList ls.length).length) (j := u.1) rfl rfl hh9 Tb.elm_25 rfl (by omega)) rfl (by decide) ?_
      refine TL.pure (PV.loadGI (y := (h9, (opN ls x.toList ls.length))) (v := (c : Int)) rfl Tb.one_3 (fun yy hyy => by repeat (first | exact List.mem_append_left _ hyy | refine List.mem_append_right _ ?_ | refine List.Mem.tail _ ?_)) hh9 (by simp only; omega) hce) rfl (by decide) ?_
      refine TL.pure (PV.assign rfl) rfl (by decide) ?_
      refine TL.nil ?_
      refine TQ.thenC ?_
      refine TC.seq ?_
      refine TC.region ?_
      refine TL.pure (PV.loadBox (cs := x.toList.map (Value.int .i64)) rfl Tb.agg_69 (by repeat (first | exact List.Mem.head _ | refine List.Mem.tail _ ?_ | refine List.mem_append_right _ ?_)) (map_len (by simp))) rfl (by decide) ?_
      refine TL.pure (PV.move rfl) rfl (by decide) ?_
      refine TL.call rfl Tb.gofn_90 (fun a w hs => deeper_ok w x.toList (by simp) c (by omega) (by omega)) rfl (by decide) (fun _ _ => ?_)
      refine TL.alloc Tb.zero_69 rfl (by decide) (fun b8 hb8 => ?_)
      refine TL.storeAgg (vs := (x.toList.set c (x.toList.getD c 0 + 1)).map (Value.int .i64)) rfl rfl Tb.cells_69 (by repeat (first | exact Upd.head _ | apply Upd.tail | apply Upd.appR)) (map_len (show (x.toList.set c (x.toList.getD c 0 + 1)).length = 6 by simp)) rfl (ints_one _) rfl rfl ?_
      refine TL.nil ?_
      refine TQ.thenC ?_
      refine TC.seq ?_
      refine TC.region ?_
      refine TL.pure (PV.move rfl) rfl (by decide) ?_
      refine TL.pure (PV.loadBox (cs := (x.toList.set c (x.toList.getD c 0 + 1)).map (Value.int .i64)) rfl Tb.agg_69 (by repeat (first | exact List.Mem.head _ | refine List.Mem.tail _ ?_ | refine List.mem_append_right _ ?_)) (map_len (by simp))) rfl (by decide) ?_
      refine TL.pure (PV.lookupOk (es := u.2.2.2) (xs := (x.toList.set c (x.toList.getD c 0 + 1))) key_69 map_79 Tb.zero_3 rfl rfl (show (x.toList.set c (x.toList.getD c 0 + 1)).length = 6 by simp) (fun q hq => (hu.good q hq).1.len) (by repeat (first | exact List.Mem.head _ | refine List.Mem.tail _ ?_ | refine List.mem_append_right _ ?_))) rfl (by decide) ?_
      refine TL.pure (PV.move rfl) rfl (by decide) ?_
      refine TL.pure (PV.extract rfl rfl) rfl (by decide) ?_
      refine TL.pure (PV.extract rfl rfl) rfl (by decide) ?_
      refine TL.pure (PV.assign rfl) rfl (by decide) ?_
      refine TL.pure (PV.assign rfl) rfl (by decide) ?_
      refine TL.nil ?_
      refine TQ.thenC ?_
      refine TC.seq ?_
      refine TC.region ?_
      refine TL.pure (PV.move rfl) rfl (by decide) ?_
      refine TL.pure ((by first | exact PV.notD rfl | exact PV.not rfl)) rfl (by decide) ?_
      refine TL.nil ?_
      refine TQ.thenC ?_
      first | refine TC.condD rfl (fun hnew => ?_) (fun hnew => ?_) | refine TC.cond rfl (fun hnew => ?_) (fun hnew => ?_)
      · skip
        obtain ⟨q, hqp, pj, cj, hq, hi⟩ := hr c (by omega)
        have c1 := hb.c c (by omega)
        obtain ⟨q3, hq3p, hq3⟩ := hi (x.toList.getD c 0).toNat (by omega)
        have b3 := hb.w c (x.toList.getD c 0).toNat
        have hnone : lookE (x.toList.set c (x.toList.getD c 0 + 1)) u.2.2.2 0 = none := by simpa using hnew
        refine TC.seq ?_
        refine TC.mix [true, true, true, true, false, true, true, true, true, true, true, true, true, true, true, false, false] _ 3 Tb.mixed rfl (by kernel_rfl) (by kernel_rfl) (by kernel_rfl) (by kernel_rfl) (List.Sublist.refl _) ?_
        refine TB.op (SOK.pure (PV.move rfl) rfl) (by decide) ?_
        refine TB.op (SOK.pure (PV.loadBox (cs := (x.toList.set c (x.toList.getD c 0 + 1)).map (Value.int .i64)) rfl Tb.agg_69 (by repeat (first | exact List.Mem.head _ | refine List.Mem.tail _ ?_ | refine List.mem_append_right _ ?_)) (map_len (by simp))) rfl) (by decide) ?_
        refine TB.op (SOK.pure (PV.move rfl) rfl) (by decide) ?_
        refine TB.op (SOK.pure (PV.loadBox (cs := x.toList.map (Value.int .i64)) rfl Tb.agg_69 (by repeat (first | exact List.Mem.head _ | refine List.Mem.tail _ ?_ | refine List.mem_append_right _ ?_)) (map_len (by simp))) rfl) (by decide) ?_
        refine TB.no ?_
        refine TB.op (SOK.pure (PV.fieldAddr rfl Tb.fo_24_0) rfl) (by decide) ?_
        refine TB.op (SOK.pure (PV.load rfl Tb.one_22 (by repeat (first | exact List.Mem.head _ | refine List.Mem.tail _ ?_ | refine List.mem_append_right _ ?_)) rfl) rfl) (by decide) ?_
        refine TB.op (SOK.pure (PV.move rfl) rfl) (by decide) ?_
        refine TB.op (SOK.pure (PV.indexA rfl hqp rfl Tb.elm_22 rfl (by omega)) rfl) (by decide) ?_
        refine TB.op (SOK.pure (PV.loadOld rfl Tb.one_25 hq) rfl) (by decide) ?_
        refine TB.op (SOK.pure (PV.move rfl) rfl) (by decide) ?_
        refine TB.op (SOK.pure (PV.indexArr (j := c) rfl rfl arr_69 rfl (by omega)) rfl) (by decide) ?_
        refine TB.op (SOK.pure (PV.loadI (xs := x.toList) rfl Tb.one_3 (by repeat (first | exact List.Mem.head _ | refine List.Mem.tail _ ?_ | refine List.mem_append_right _ ?_)) (by simp; omega)) rfl) (by decide) ?_
        refine TB.op (SOK.pure (PV.indexA (j := (x.toList.getD c 0).toNat) rfl hq3p rfl Tb.elm_25 (by omega) (by omega)) rfl) (by decide) ?_
        refine TB.op (SOK.pure (PV.loadOld rfl Tb.one_3 hq3) rfl) (by decide) ?_
        refine TB.no ?_
        refine TB.no ?_
        refine TB.fin ?_
        refine TX.step [4] (by kernel_rfl) (by decide) ⟨⟨_, rfl, ?_⟩, trivial⟩
        refine TL.pure (PV.lookupE (es := u.2.2.2) (xs := x.toList) key_69 map_79 Tb.zero_3 rfl rfl (by simp) (fun q hq => (hu.good q hq).1.len) (by repeat (first | exact List.Mem.head _ | refine List.Mem.tail _ ?_ | refine List.mem_append_right _ ?_))) rfl (by decide) ?_
        refine TL.nil ?_
        refine TX.next (.inl (by repeat (first | exact List.Sublist.slnil | exact List.nil_sublist _ | exact List.Sublist.refl _ | refine List.Sublist.cons_cons _ ?_ | refine List.Sublist.cons _ ?_ | refine List.Sublist.trans ?_ (List.sublist_append_right _ _)))) ?_
        refine TX.step [15] (by kernel_rfl) (by decide) ⟨⟨_, rfl, ?_⟩, trivial⟩
        refine TL.pure (PV.add rfl rfl (by omega)) rfl (by decide) ?_
        refine TL.nil ?_
        refine TX.next (.inl (by repeat (first | exact List.Sublist.slnil | exact List.nil_sublist _ | exact List.Sublist.refl _ | refine List.Sublist.cons_cons _ ?_ | refine List.Sublist.cons _ ?_ | refine List.Sublist.trans ?_ (List.sublist_append_right _ _)))) ?_
        refine TX.step [16] (by kernel_rfl) (by decide) ⟨⟨_, rfl, ?_⟩, trivial⟩
        refine TL.updateE (es := u.2.2.2) (xs := (x.toList.set c (x.toList.getD c 0 + 1))) (v := (((lookE x.toList u.2.2.2 0).map (·.2)).getD 0 + (ls.getD c []).getD (x.toList.getD c 0).toNat 0)) key_69 map_79 rfl rfl rfl (show (x.toList.set c (x.toList.getD c 0 + 1)).length = 6 by simp) (fun q hq => (hu.good q hq).1.len) hnone (by repeat (first | exact Upd.head _ | apply Upd.tail | apply Upd.appR)) rfl rfl ?_
        refine TL.nil ?_
        refine TX.next (.inr (by kernel_rfl)) ?_
        refine TX.done (by kernel_rfl) ?_
        refine TQ.thenC ?_
        refine TC.region ?_
        refine TL.pure (PV.move rfl) rfl (by decide) ?_
        refine TL.pure (PV.loadBox (cs := (x.toList.set c (x.toList.getD c 0 + 1)).map (Value.int .i64)) rfl Tb.agg_69 (by repeat (first | exact List.Mem.head _ | refine List.Mem.tail _ ?_ | refine List.mem_append_right _ ?_)) (map_len (by simp))) rfl (by decide) ?_
        refine TL.buildSlice (cs := intsA (x.toList.set c (x.toList.getD c 0 + 1))) rfl Tb.sl_82 Tb.zi_69 (by decide) (fill_h1 _ (show (x.toList.set c (x.toList.getD c 0 + 1)).length = 6 by simp)) (by decide) rfl (by decide) (fun bS hbS => ?_)
        refine TL.appendRec (R := hR) (h0 := u.2.1) (ys := u.2.2.1) (r := mkV (x.toList.set c (x.toList.getD c 0 + 1)) (show (x.toList.set c (x.toList.getD c 0 + 1)).length = 6 by simp)) Tb.sl_82 Tb.zi_69 rfl rfl rfl (by repeat (first | exact List.Mem.head _ | refine List.Mem.tail _ ?_ | refine List.mem_append_right _ ?_)) hug (by repeat (first | exact TakeH.here _ _ _ _ | apply TakeH.tail | apply TakeH.app)) (by omega) (by omega) rfl (by decide) (fun h8 hh8 => ?_)
        let nx : Nat × HD × List Hv × List Ent := (u.1 + 1, h8, u.2.2.1 ++ [mkV (x.toList.set c (x.toList.getD c 0 + 1)) (show (x.toList.set c (x.toList.getD c 0 + 1)).length = 6 by simp)], u.2.2.2 ++ [((x.toList.set c (x.toList.getD c 0 + 1)), (((lookE x.toList u.2.2.2 0).map (·.2)).getD 0 + (ls.getD c []).getD (x.toList.getD c 0).toNat 0))])
        have hnu : nx.1 = u.1 + 1 := rfl
        have hnx : WJ ls x nx.1 nx.2.2.2 nx.2.2.1 es.length l'.length ∧ goR hR nx.2.1 nx.2.2.1 := ⟨WJ.put hb hu hce hcn hco (by omega) rfl hnone rfl, hh8⟩
        refine TL.pure (PV.assign rfl) rfl (by decide) ?_
        refine TL.nil ?_
        refine TQ.blkN ?_
        refine TQ.thenC ?_
        refine TC.region ?_
        refine TL.pure (PV.add rfl rfl (by omega)) rfl (by decide) ?_
        refine TL.pure (PV.move rfl) rfl (by decide) ?_
        refine TL.nil ?_
        refine TQ.thenN ?_
        refine TQ.backK nx (by repeat (first | exact True.intro | refine And.intro rfl ?_)) (by repeat (first | exact True.intro | refine And.intro rfl ?_)) (by repeat (first | exact List.Sublist.slnil | exact List.nil_sublist _ | exact List.Sublist.refl _ | exact List.sublist_append_left _ _ | refine List.Sublist.cons_cons _ ?_ | refine (List.append_sublist_append_left _).2 ?_ | refine List.Sublist.cons _ ?_ | refine List.Sublist.trans ?_ (List.sublist_append_right _ _))) hnx (by rw [hnu]; omega)
      · skip
        let nx : Nat × HD × List Hv × List Ent := (u.1 + 1, u.2.1, u.2.2.1, u.2.2.2)
        have hnu : nx.1 = u.1 + 1 := rfl
        have hnx : WJ ls x nx.1 nx.2.2.2 nx.2.2.1 es.length l'.length ∧ goR hR nx.2.1 nx.2.2.1 := ⟨hu.skip hce (by omega) (by simpa using hnew), hug⟩
        refine TC.skip ?_
        refine TQ.blkN ?_
        refine TQ.thenC ?_
        refine TC.region ?_
        refine TL.pure (PV.add rfl rfl (by omega)) rfl (by decide) ?_
        refine TL.pure (PV.move rfl) rfl (by decide) ?_
        refine TL.nil ?_
        refine TQ.thenN ?_
        refine TQ.backK nx (by repeat (first | exact True.intro | refine And.intro rfl ?_)) (by repeat (first | exact True.intro | refine And.intro rfl ?_)) (by repeat (first | exact List.Sublist.slnil | exact List.nil_sublist _ | exact List.Sublist.refl _ | exact List.sublist_append_left _ _ | refine List.Sublist.cons_cons _ ?_ | refine (List.append_sublist_append_left _).2 ?_ | refine List.Sublist.cons _ ?_ | refine List.Sublist.trans ?_ (List.sublist_append_right _ _))) hnx (by rw [hnu]; omega)
    · skip
      refine TC.exit ?_
      refine TQ.thenE ?_
      refine TQ.thenE ?_
      refine TQ.blkS ?_
      refine TQ.blkN ?_
      refine TQ.thenN ?_
      refine TQ.backK (u.2.1, u.2.2.1, u.2.2.2) (by repeat (first | exact True.intro | refine And.intro rfl ?_)) (by repeat (first | exact True.intro | refine And.intro rfl ?_)) (by repeat (first | exact List.Sublist.slnil | exact List.nil_sublist _ | exact List.Sublist.refl _ | exact List.sublist_append_left _ _ | refine List.Sublist.cons_cons _ ?_ | refine (List.append_sublist_append_left _).2 ?_ | refine List.Sublist.cons _ ?_ | refine List.Sublist.trans ?_ (List.sublist_append_right _ _))) ⟨hu.done (by omega), hug⟩ (by have h1 := WJ.len_ hb hu; have h2 := hu.cnt; have h3 := hll; simp only [List.length_append, List.length_singleton] at h3 ⊢; omega)
  · skip
    refine TC.exit ?_
    refine TQ.thenE ?_
    refine TQ.thenE ?_
    refine TQ.blkS ?_
    refine TQ.thenC ?_
    refine TC.seq ?_
    have hl0 : l.length = 0 := by first | omega | (simp only at hpos; omega)
    obtain rfl := List.eq_nil_of_length_eq_zero hl0
    refine TC.region ?_
    refine TL.pure (PV.move rfl) rfl (by decide) ?_
    refine TL.pure (PV.assign rfl) rfl (by decide) ?_
    refine TL.nil ?_
    refine TQ.thenC ?_
    refine TC.ret ?_
    refine TQ.retE1 rfl rfl ?_
    exact ⟨(b1, es), rfl, hv, List.Sublist.trans (List.Sublist.cons_cons _ (List.nil_sublist _)) (List.sublist_append_right _ _)⟩

end Go.Proofs.Ytfgjojoipbbacaa
