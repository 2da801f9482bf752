/- Texts joined. -/
import Derived.Test.YtfgjojoipbbacaaQCM
set_option linter.unusedSimpArgs false
set_option linter.unusedVariables false
/- All right hollows and what they are worth: contract. -/
namespace Go.Sx
open Go.RowKit Go.Proofs.Ytfgjojoipbbacaa
section
variable {P : Program} {n : Nat} {w0 : World} {E : Env} {G : Heap} {d : Option Nat} {ty : TypeId} {pos : String} {aft : Array Edge} {g : Option (Nat × Bool)}
/-- The zero value, as a literal with nothing in it. -/
theorem PV.build0 {t m e sz : Nat} {a : Array Value} (hz : zeroOf P t = some (.agg a)) (ha : arrOf P t = some (m, e, sz)) : PV P n w0 E G ⟨d, .build t #[], ty, pos, aft, g⟩ (.agg a) :=
  fun A w hs => by
    unfold arrOf at ha
    cases hu : P.underlying t with
    | none => simp [hu] at ha
    | some u =>
      cases u <;> simp only [hu] at ha <;> try (simp at ha; done)
      rename_i m' e'
      cases hi2 : P.info? e' with
      | none => simp [hi2] at ha
      | some inf =>
        have hzr := zero_run hz w
        simp only [execOp]
        simp [Instr.build, hzr, run_underlying hu, sizeOf, typeInfo, hi2, Instr.fill, Value.cells]
/-- A number of a grown slice, loaded. -/
theorem PV.loadGI {x : Operand} {j t : Nat} {y : HD × List Int} {v : Int} (hx : evo E x = some (.pointer (some ⟨(y.1.map (·.1)).getD 0, j * 1, none⟩))) (ht : oneB P t = true)
    (hm : ∀ q ∈ gbI y, q ∈ G) (hok : goI y) (hj : j < y.2.length) (hv : y.2.getD j 0 = v) : PV P n w0 E G ⟨d, .load t x, ty, pos, aft, g⟩ (.int .i64 v) := by
  subst hv
  obtain ⟨h, l⟩ := y
  cases h with
  | none => exact absurd hok.2 (by simp only [List.length_map] at hj ⊢; omega)
  | some hh =>
    obtain ⟨b, cap, sp⟩ := hh
    simp only [Option.map_some, Option.getD_some, Nat.mul_one] at hx
    exact PV.loadG' hx ht (hm _ (.head _)) (app_get hj)
end
end Go.Sx
namespace Go.Proofs.Ytfgjojoipbbacaa
open Go.Sx Go.RowKit
def hR : Rec Hv where
  cells := fun r => r.toList.map (Value.int .i64)
  sz := 6
  len := fun r => by simp
  one := fun r v hv => by obtain ⟨i, _, rfl⟩ := List.mem_map.1 hv; rfl
  pos := by decide
theorem key_69 : KeyT Try.prog 69 6 := ⟨3, 3, (Try.prog.info? 3).get (by kernel_rfl), by kernel_rfl, by kernel_rfl, (Option.some_get _).symm, by kernel_rfl, by kernel_rfl, rfl⟩
theorem map_79 : Try.prog.underlying 79 = some (.map 69 3) := by kernel_rfl
theorem fill_h0 : Instr.fill (fun i => some (i * 6, 6)) ((Array.range (1 * 6)).map ((Value.agg #[(.int .i64 0), (.int .i64 0), (.int .i64 0), (.int .i64 0), (.int .i64 0), (.int .i64 0)]).cells[· % (Value.agg #[(.int .i64 0), (.int .i64 0), (.int .i64 0), (.int .i64 0), (.int .i64 0), (.int .i64 0)]).cells.size]!)) [(0, .agg (intsA Zl))] = some (intsA Zl) := by kernel_rfl
theorem fill_h6 (a b c d e f : Int) : Instr.fill (fun i => some (i * 6, 6)) ((Array.range (1 * 6)).map ((Value.agg #[(.int .i64 0), (.int .i64 0), (.int .i64 0), (.int .i64 0), (.int .i64 0), (.int .i64 0)]).cells[· % (Value.agg #[(.int .i64 0), (.int .i64 0), (.int .i64 0), (.int .i64 0), (.int .i64 0), (.int .i64 0)]).cells.size]!)) [(0, .agg (intsA [a, b, c, d, e, f]))] = some (intsA [a, b, c, d, e, f]) := by kernel_rfl
theorem fill_h1 (xs : List Int) (hx : xs.length = 6) : Instr.fill (fun i => some (i * 6, 6)) ((Array.range (1 * 6)).map ((Value.agg #[(.int .i64 0), (.int .i64 0), (.int .i64 0), (.int .i64 0), (.int .i64 0), (.int .i64 0)]).cells[· % (Value.agg #[(.int .i64 0), (.int .i64 0), (.int .i64 0), (.int .i64 0), (.int .i64 0), (.int .i64 0)]).cells.size]!)) [(0, .agg (intsA xs))] = some (intsA xs) := by
  match xs, hx with
  | [a, b, c, d, e, f], _ => exact fill_h6 a b c d e f
theorem perm_row {α : Type} (A : List α) (r t : α) (R : List α) : List.Perm (r :: (A ++ t :: R)) (A ++ t :: r :: R) := by
  have := (List.perm_middle (a := r) (l₁ := A ++ [t]) (l₂ := R)).symm
  simpa using this
theorem hdr_some {h : HD} {l : List Hv} (ho : goR hR h l) (hl : 0 < l.length) : ∃ b c s, h = some (b, c, s) := by
  obtain _ | ⟨b, c, s⟩ := h
  · have : l.length = 0 := ho.2
    omega
  · exact ⟨b, c, s, rfl⟩
theorem snoc_of {l : List Hv} (h : 0 < l.length) : ∃ l' x, l = l' ++ [x] := ⟨l.dropLast, l.getLast (by intro e; subst e; simp at h), (List.dropLast_concat_getLast _).symm⟩
theorem pop_blk {b c : Nat} {s : List Value} {l : List Hv} {x : Hv} : gbR hR 69 (some (b, c, s)) (l ++ [x]) = gbR hR 69 (some (b, c, hR.cells x ++ s)) l := by
  show [(b, Obj.cells (rcs hR (l ++ [x]) ++ s).toArray 69 (0, 0))] = [(b, Obj.cells (rcs hR l ++ (hR.cells x ++ s)).toArray 69 (0, 0))]
  rw [rcs_app, List.append_assoc]
  simp [rcs]
theorem pop_ok {b c : Nat} {s : List Value} {l : List Hv} {x : Hv} (h : goR hR (some (b, c, s)) (l ++ [x])) : goR hR (some (b, c, hR.cells x ++ s)) l := by
  obtain ⟨h1, h2, h3⟩ := h
  have e1 := rcs_len (R := hR) l
  have e2 := rcs_len (R := hR) (l ++ [x])
  have e3 := hR.len x
  rw [List.length_append, List.length_singleton] at h3 e2
  refine ⟨e1, ?_, by omega⟩
  rw [h2, e2, List.length_append, e3, e1, Nat.add_mul]
  omega


set_option maxRecDepth 100000 in
set_option maxHeartbeats 4000000 in
theorem worths_ok (w0 : World) (p : Option Addr) (cap : Nat) (ls : List (List Int)) (hr : LsAt w0 p ls) (hb : VB ls) :
    Calls Try.prog 81 #[bv p ls.length cap] w0 (Post (X := Nat × List Ent) (fun y => .map (some y.1)) (fun y => WI ls y.2 []) (fun y => [(y.1, mobj y.2)]) w0) := by
  have hn := hb.n
  have hd := hb.d
  refine calls Try.func81 rfl (n := 71) rfl (by simp) ?_
  refine TC.seq ?_
  refine TC.region ?_
  refine TL.box rfl rfl (by decide) (fun b0 hb0 => ?_)
  refine TL.pure (PV.assign rfl) rfl (by decide) ?_
  refine TL.nil ?_
  refine TQ.thenC ?_
  refine TC.seq ?_
  refine TC.region ?_
  refine TL.makeMap rfl (by decide) (fun b1 hb1 => ?_)
  refine TL.pure (PV.build0 Tb.zero_69 arr_69) rfl (by decide) ?_
  refine TL.insertE (es := []) (xs := Zl) (v := 0) key_69 map_79 rfl rfl rfl rfl (by simp) rfl (by repeat (first | exact Upd.head _ | apply Upd.tail | apply Upd.appR)) rfl rfl ?_
  refine TL.pure (PV.move rfl) rfl (by decide) ?_
  refine TL.pure (PV.assign rfl) rfl (by decide) ?_
  refine TL.nil ?_
  refine TQ.thenC ?_
  refine TC.seq ?_
  refine TC.region ?_
  refine TL.pure (PV.build0 Tb.zero_69 arr_69) rfl (by decide) ?_
  refine TL.buildSlice (cs := intsA Zl) rfl Tb.sl_82 Tb.zi_69 (by decide) fill_h0 (by decide) rfl (by decide) (fun b2 hb2 => ?_)
  refine TL.pure (PV.assign rfl) rfl (by decide) ?_
  refine TL.nil ?_
  refine TQ.thenC ?_
  refine TC.seq ?_
  refine TC.block ?_
  refine TC.lit [(1, _), (2, _), (3, _), (4, _)] (by repeat (first | exact True.intro | refine And.intro rfl ?_)) ?_
  refine TC.loopK [1, 2, 3] (X := HD × List Hv × List Ent) (fun v => WI ls v.2.2 v.2.1 ∧ goR hR v.1 v.2.1) (fun v => [(4, gval v.1 v.2.1.length)]) (fun v => gbR hR 69 v.1 v.2.1 ++ [(b1, mobj v.2.2), (b0, Obj.cells #[.slice p ls.length cap] 24 (0, 0))]) (fun v => 40000 - (2 * v.2.2.length - v.2.1.length)) (some (b2, 1, []), [mkV Zl rfl], [(Zl, 0)]) ⟨WI.zero_ hb, ⟨rfl, rfl, Nat.le_refl _⟩⟩ (by repeat (first | exact True.intro | refine And.intro rfl ?_)) (by repeat (first | exact List.Sublist.slnil | exact List.nil_sublist _ | exact List.Sublist.refl _ | exact List.sublist_append_left _ _ | refine List.Sublist.cons_cons _ ?_ | refine (List.append_sublist_append_left _).2 ?_ | refine List.Sublist.cons _ ?_ | refine List.Sublist.trans ?_ (List.sublist_append_right _ _))) ?_
  rintro ⟨h, l, es⟩ ⟨hv, hg⟩
  refine TC.lit [(1, _), (2, _), (3, _), (4, _)] (by repeat (first | exact True.intro | refine And.intro rfl ?_)) ?_
  refine TC.seq ?_
  refine TC.seq ?_
  refine TC.region ?_
  refine TL.pure (PV.move rfl) rfl (by decide) ?_
  refine TL.pure (PV.lenG (h := h) (len := l.length) rfl hg Tb.sl_82) rfl (by decide) ?_
  refine TL.pure (PV.gtr rfl rfl) rfl (by decide) ?_
  refine TL.nil ?_
  refine TQ.thenC ?_
  first | refine TC.condD rfl (fun hpos => ?_) (fun hpos => ?_) | refine TC.cond rfl (fun hpos => ?_) (fun hpos => ?_)
  · skip
    obtain ⟨l', x, rfl⟩ := snoc_of (l := l) (by first | omega | (simp only at hpos; omega))
    obtain ⟨b9, c9, s9, rfl⟩ := hdr_some hg (by simp)
    have hll := WI.len_ hb hv
    have hg2 := pop_ok hg
    refine TC.skip ?_
    refine TQ.thenC ?_
    refine TC.block ?_
    refine TC.seq ?_
    refine TC.region ?_
    refine TL.pure (PV.move rfl) rfl (by decide) ?_
    refine TL.pure (PV.move rfl) rfl (by decide) ?_
    refine TL.pure (PV.len rfl Tb.sl_82) rfl (by decide) ?_
    refine TL.pure (PV.sub rfl rfl (by omega)) rfl (by decide) ?_
    refine TL.pure (PV.indexG (h := some (b9, c9, s9)) (len := (l' ++ [x]).length) (j := l'.length) rfl rfl hg Tb.elm_82 (by simp) (by simp)) rfl (by decide) ?_
    refine TL.pure (PV.loadRec (R := hR) (h := some (b9, c9, s9)) (l := l' ++ [x]) (j := l'.length) (r := x) rfl Tb.agg_69 (fun yy hyy => by repeat (first | exact List.mem_append_left _ hyy | refine List.mem_append_right _ ?_ | refine List.Mem.tail _ ?_)) hg (by simp) (by simp)) rfl (by decide) ?_
    refine TL.alloc Tb.zero_69 rfl (by decide) (fun b3 hb3 => ?_)
    refine TL.storeAgg (vs := x.toList.map (Value.int .i64)) rfl rfl Tb.cells_69 (by repeat (first | exact Upd.head _ | apply Upd.tail | apply Upd.appR)) (map_len (by simp)) rfl (ints_one _) rfl rfl ?_
    refine TL.nil ?_
    refine TQ.thenC ?_
    refine TC.seq ?_
    refine TC.region ?_
    refine TL.pure (PV.move rfl) rfl (by decide) ?_
    refine TL.pure (PV.move rfl) rfl (by decide) ?_
    refine TL.pure (PV.len rfl Tb.sl_82) rfl (by decide) ?_
    refine TL.pure (PV.sub rfl rfl (by omega)) rfl (by decide) ?_
    refine TL.pure (PV.sliceHb (h := l'.length) rfl rfl Tb.elm_82 (by simp) (by have := hg.2.2; simp at this; omega)) rfl (by decide) ?_
    refine TL.pure (PV.assign rfl) rfl (by decide) ?_
    refine TL.nil ?_
    refine TQ.thenC ?_
    refine TC.seq ?_
    refine TC.region ?_
    refine TL.pure (PV.loadBox rfl Tb.agg_24 (by repeat (first | exact List.Mem.head _ | refine List.Mem.tail _ ?_ | refine List.mem_append_right _ ?_)) rfl) rfl (by decide) ?_
    refine TL.pure (PV.loadBox (cs := x.toList.map (Value.int .i64)) rfl Tb.agg_69 (by repeat (first | exact List.Mem.head _ | refine List.Mem.tail _ ?_ | refine List.mem_append_right _ ?_)) (map_len (by simp))) rfl (by decide) ?_
    refine TL.call rfl Tb.gofn_86 (fun a w hs => open_ok w _ _ _ (hr.new hs.new) hn x.toList (by simp)) rfl (by decide) (fun h9 hh9 => ?_)
    refine TL.pure (PV.lenG (h := h9) (len := (opN ls x.toList ls.length).length) rfl hh9 Tb.sl_25) rfl (by decide) ?_
    refine TL.pure (PV.move rfl) rfl (by decide) ?_
    refine TL.nil ?_
    refine TQ.thenC ?_
    refine TC.block ?_
    refine TC.lit [(1, _), (2, _), (3, _), (4, _), (5, _), (32, _), (33, _), (34, _)] (by repeat (first | exact True.intro | refine And.intro rfl ?_)) ?_
    refine TC.perm (G' := gbR hR 69 (some (b9, c9, hR.cells x ++ s9)) l' ++ (gbI (h9, (opN ls x.toList ls.length)) ++ [(b3, Obj.cells (intsA x.toList) 69 (0, 0)), (b1, mobj es), (b0, Obj.cells #[.slice p ls.length cap] 24 (0, 0))])) (by rw [← pop_blk]; exact perm_row _ _ _ _) ?_
    refine TC.loopK [1, 2, 3, 5, 32, 33] (X := Nat × HD × List Hv × List Ent) (fun u => WJ ls x u.1 u.2.2.2 u.2.2.1 es.length l'.length ∧ goR hR u.2.1 u.2.2.1) (fun u => [(34, .int .i64 u.1), (4, gval u.2.1 u.2.2.1.length)]) (fun u => gbR hR 69 u.2.1 u.2.2.1 ++ (gbI (h9, (opN ls x.toList ls.length)) ++ [(b3, Obj.cells (intsA x.toList) 69 (0, 0)), (b1, mobj u.2.2.2), (b0, Obj.cells #[.slice p ls.length cap] 24 (0, 0))])) (fun u => (opN ls x.toList ls.length).length - u.1) (0, some (b9, c9, hR.cells x ++ s9), l', es) ⟨hv.pop, pop_ok hg⟩ (by repeat (first | exact True.intro | refine And.intro rfl ?_)) (by repeat (first | exact List.Sublist.slnil | exact List.nil_sublist _ | exact List.Sublist.refl _ | exact List.sublist_append_left _ _ | refine List.Sublist.cons_cons _ ?_ | refine (List.append_sublist_append_left _).2 ?_ | refine List.Sublist.cons _ ?_ | refine List.Sublist.trans ?_ (List.sublist_append_right _ _))) ?_
    rintro u ⟨hu, hug⟩
    refine TC.lit [(1, _), (2, _), (3, _), (4, _), (5, _), (32, _), (33, _), (34, _)] (by repeat (first | exact True.intro | refine And.intro rfl ?_)) ?_
    refine TC.seq ?_
    refine TC.region ?_
    refine TL.pure (PV.lss rfl rfl) rfl (by decide) ?_
    refine TL.nil ?_
    refine TQ.thenC ?_
    refine TC.seq ?_
    first | refine TC.condD rfl (fun hlt2 => ?_) (fun hlt2 => ?_) | refine TC.cond rfl (fun hlt2 => ?_) (fun hlt2 => ?_)
    · skip
      refine TC.skip ?_
      refine TQ.thenC ?_
      refine TC.seq ?_
      refine TC.block ?_
      refine TC.seq ?_
      obtain ⟨c, hcn, hce, hco⟩ := op_get (ls := ls) (xs := x.toList) (n := ls.length) (u := u.1) (by omega)
      obtain ⟨v1, v2, hrh⟩ := WJ.val hb hu
      have hrg := hrh.rng c hcn
      have hul := WJ.len_ hb hu
      have hcne := op_ne hco
      have hol := op_len ls x.toList ls.length
      refine TC.region ?_
      refine TL.pure (PV.indexG (h := h9) (len := (opN ls x.toList ls.length).length) (j := u.1) rfl rfl hh9 Tb.elm_25 rfl (by omega)) rfl (by decide) ?_
      refine TL.pure (PV.loadGI (y := (h9, (opN ls x.toList ls.length))) (v := (c : Int)) rfl Tb.one_3 (fun yy hyy => by repeat (first | exact List.mem_append_left _ hyy | refine List.mem_append_right _ ?_ | refine List.Mem.tail _ ?_)) hh9 (by simp only; omega) hce) rfl (by decide) ?_
      refine TL.pure (PV.assign rfl) rfl (by decide) ?_
      refine TL.nil ?_
      refine TQ.thenC ?_
      refine TC.seq ?_
      refine TC.region ?_
      refine TL.pure (PV.loadBox (cs := x.toList.map (Value.int .i64)) rfl Tb.agg_69 (by repeat (first | exact List.Mem.head _ | refine List.Mem.tail _ ?_ | refine List.mem_append_right _ ?_)) (map_len (by simp))) rfl (by decide) ?_
      refine TL.pure (PV.move rfl) rfl (by decide) ?_
      refine TL.call rfl Tb.gofn_90 (fun a w hs => deeper_ok w x.toList (by simp) c (by omega) (by omega)) rfl (by decide) (fun _ _ => ?_)
      refine TL.alloc Tb.zero_69 rfl (by decide) (fun b8 hb8 => ?_)
      refine TL.storeAgg (vs := (x.toList.set c (x.toList.getD c 0 + 1)).map (Value.int .i64)) rfl rfl Tb.cells_69 (by repeat (first | exact Upd.head _ | apply Upd.tail | apply Upd.appR)) (map_len (show (x.toList.set c (x.toList.getD c 0 + 1)).length = 6 by simp)) rfl (ints_one _) rfl rfl ?_
      refine TL.nil ?_
      refine TQ.thenC ?_
      refine TC.seq ?_
      refine TC.region ?_
      refine TL.pure (PV.move rfl) rfl (by decide) ?_
      refine TL.pure (PV.loadBox (cs := (x.toList.set c (x.toList.getD c 0 + 1)).map (Value.int .i64)) rfl Tb.agg_69 (by repeat (first | exact List.Mem.head _ | refine List.Mem.tail _ ?_ | refine List.mem_append_right _ ?_)) (map_len (by simp))) rfl (by decide) ?_
      refine TL.pure (PV.lookupOk (es := u.2.2.2) (xs := (x.toList.set c (x.toList.getD c 0 + 1))) key_69 map_79 Tb.zero_3 rfl rfl (show (x.toList.set c (x.toList.getD c 0 + 1)).length = 6 by simp) (fun q hq => (hu.good q hq).1.len) (by repeat (first | exact List.Mem.head _ | refine List.Mem.tail _ ?_ | refine List.mem_append_right _ ?_))) rfl (by decide) ?_
      refine TL.pure (PV.move rfl) rfl (by decide) ?_
      refine TL.pure (PV.extract rfl rfl) rfl (by decide) ?_
      refine TL.pure (PV.extract rfl rfl) rfl (by decide) ?_
      refine TL.pure (PV.assign rfl) rfl (by decide) ?_
      refine TL.pure (PV.assign rfl) rfl (by decide) ?_
      refine TL.nil ?_
      refine TQ.thenC ?_
      refine TC.seq ?_
      refine TC.region ?_
      refine TL.pure (PV.move rfl) rfl (by decide) ?_
      refine TL.pure ((by first | exact PV.notD rfl | exact PV.not rfl)) rfl (by decide) ?_
      refine TL.nil ?_
      refine TQ.thenC ?_
      first | refine TC.condD rfl (fun hnew => ?_) (fun hnew => ?_) | refine TC.cond rfl (fun hnew => ?_) (fun hnew => ?_)
      · skip
        obtain ⟨q, hqp, pj, cj, hq, hi⟩ := hr c (by omega)
        have c1 := hb.c c (by omega)
        obtain ⟨q3, hq3p, hq3⟩ := hi (x.toList.getD c 0).toNat (by omega)
        have b3 := hb.w c (x.toList.getD c 0).toNat
        have hnone : lookE (x.toList.set c (x.toList.getD c 0 + 1)) u.2.2.2 0 = none := by simpa using hnew
        refine TC.seq ?_
        refine TC.mix [true, true, true, true, false, true, true, true, true, true, true, true, true, true, true, false, false] _ 3 Tb.mixed rfl (by kernel_rfl) (by kernel_rfl) (by kernel_rfl) (by kernel_rfl) (List.Sublist.refl _) ?_
        refine TB.op (SOK.pure (PV.move rfl) rfl) (by decide) ?_
        refine TB.op (SOK.pure (PV.loadBox (cs := (x.toList.set c (x.toList.getD c 0 + 1)).map (Value.int .i64)) rfl Tb.agg_69 (by repeat (first | exact List.Mem.head _ | refine List.Mem.tail _ ?_ | refine List.mem_append_right _ ?_)) (map_len (by simp))) rfl) (by decide) ?_
        refine TB.op (SOK.pure (PV.move rfl) rfl) (by decide) ?_
        refine TB.op (SOK.pure (PV.loadBox (cs := x.toList.map (Value.int .i64)) rfl Tb.agg_69 (by repeat (first | exact List.Mem.head _ | refine List.Mem.tail _ ?_ | refine List.mem_append_right _ ?_)) (map_len (by simp))) rfl) (by decide) ?_
        refine TB.no ?_
        refine TB.op (SOK.pure (PV.fieldAddr rfl Tb.fo_24_0) rfl) (by decide) ?_
        refine TB.op (SOK.pure (PV.load rfl Tb.one_22 (by repeat (first | exact List.Mem.head _ | refine List.Mem.tail _ ?_ | refine List.mem_append_right _ ?_)) rfl) rfl) (by decide) ?_
        refine TB.op (SOK.pure (PV.move rfl) rfl) (by decide) ?_
        refine TB.op (SOK.pure (PV.indexA rfl hqp rfl Tb.elm_22 rfl (by omega)) rfl) (by decide) ?_
        refine TB.op (SOK.pure (PV.loadOld rfl Tb.one_25 hq) rfl) (by decide) ?_
        refine TB.op (SOK.pure (PV.move rfl) rfl) (by decide) ?_
        refine TB.op (SOK.pure (PV.indexArr (j := c) rfl rfl arr_69 rfl (by omega)) rfl) (by decide) ?_
        refine TB.op (SOK.pure (PV.loadI (xs := x.toList) rfl Tb.one_3 (by repeat (first | exact List.Mem.head _ | refine List.Mem.tail _ ?_ | refine List.mem_append_right _ ?_)) (by simp; omega)) rfl) (by decide) ?_
        refine TB.op (SOK.pure (PV.indexA (j := (x.toList.getD c 0).toNat) rfl hq3p rfl Tb.elm_25 (by omega) (by omega)) rfl) (by decide) ?_
        refine TB.op (SOK.pure (PV.loadOld rfl Tb.one_3 hq3) rfl) (by decide) ?_
        refine TB.no ?_
        refine TB.no ?_
        refine TB.fin ?_
        refine TX.step [4] (by kernel_rfl) (by decide) ⟨⟨_, rfl, ?_⟩, trivial⟩
        refine TL.pure (PV.lookupE (es := u.2.2.2) (xs := x.toList) key_69 map_79 Tb.zero_3 rfl rfl (by simp) (fun q hq => (hu.good q hq).1.len) (by repeat (first | exact List.Mem.head _ | refine List.Mem.tail _ ?_ | refine List.mem_append_right _ ?_))) rfl (by decide) ?_
        refine TL.nil ?_
        refine TX.next (.inl (by repeat (first | exact List.Sublist.slnil | exact List.nil_sublist _ | exact List.Sublist.refl _ | refine List.Sublist.cons_cons _ ?_ | refine List.Sublist.cons _ ?_ | refine List.Sublist.trans ?_ (List.sublist_append_right _ _)))) ?_
        refine TX.step [15] (by kernel_rfl) (by decide) ⟨⟨_, rfl, ?_⟩, trivial⟩
        refine TL.pure (PV.add rfl rfl (by omega)) rfl (by decide) ?_
        refine TL.nil ?_
        refine TX.next (.inl (by repeat (first | exact List.Sublist.slnil | exact List.nil_sublist _ | exact List.Sublist.refl _ | refine List.Sublist.cons_cons _ ?_ | refine List.Sublist.cons _ ?_ | refine List.Sublist.trans ?_ (List.sublist_append_right _ _)))) ?_
        refine TX.step [16] (by kernel_rfl) (by decide) ⟨⟨_, rfl, ?_⟩, trivial⟩
        refine TL.updateE (es := u.2.2.2) (xs := (x.toList.set c (x.toList.getD c 0 + 1))) (v := (((lookE x.toList u.2.2.2 0).map (·.2)).getD 0 + (ls.getD c []).getD (x.toList.getD c 0).toNat 0)) key_69 map_79 rfl rfl rfl (show (x.toList.set c (x.toList.getD c 0 + 1)).length = 6 by simp) (fun q hq => (hu.good q hq).1.len) hnone (by repeat (first | exact Upd.head _ | apply Upd.tail | apply Upd.appR)) rfl rfl ?_
        refine TL.nil ?_
        refine TX.next (.inr (by kernel_rfl)) ?_
        refine TX.done (by kernel_rfl) ?_
        refine TQ.thenC ?_
        refine TC.region ?_
        refine TL.pure (PV.move rfl) rfl (by decide) ?_
        refine TL.pure (PV.loadBox (cs := (x.toList.set c (x.toList.getD c 0 + 1)).map (Value.int .i64)) rfl Tb.agg_69 (by repeat (first | exact List.Mem.head _ | refine List.Mem.tail _ ?_ | refine List.mem_append_right _ ?_)) (map_len (by simp))) rfl (by decide) ?_
        refine TL.buildSlice (cs := intsA (x.toList.set c (x.toList.getD c 0 + 1))) rfl Tb.sl_82 Tb.zi_69 (by decide) (fill_h1 _ (show (x.toList.set c (x.toList.getD c 0 + 1)).length = 6 by simp)) (by decide) rfl (by decide) (fun bS hbS => ?_)
        refine TL.appendRec (R := hR) (h0 := u.2.1) (ys := u.2.2.1) (r := mkV (x.toList.set c (x.toList.getD c 0 + 1)) (show (x.toList.set c (x.toList.getD c 0 + 1)).length = 6 by simp)) Tb.sl_82 Tb.zi_69 rfl rfl rfl (by repeat (first | exact List.Mem.head _ | refine List.Mem.tail _ ?_ | refine List.mem_append_right _ ?_)) hug (by repeat (first | exact TakeH.here _ _ _ _ | apply TakeH.tail | apply TakeH.app)) (by omega) (by omega) rfl (by decide) (fun h8 hh8 => ?_)
        let nx : Nat × HD × List Hv × List Ent := (u.1 + 1, h8, u.2.2.1 ++ [mkV (x.toList.set c (x.toList.getD c 0 + 1)) (show (x.toList.set c (x.toList.getD c 0 + 1)).length = 6 by simp)], u.2.2.2 ++ [((x.toList.set c (x.toList.getD c 0 + 1)), (((lookE x.toList u.2.2.2 0).map (·.2)).getD 0 + (ls.getD c []).getD (x.toList.getD c 0).toNat 0))])
        have hnu : nx.1 = u.1 + 1 := rfl
        have hnx : WJ ls x nx.1 nx.2.2.2 nx.2.2.1 es.length l'.length ∧ goR hR nx.2.1 nx.2.2.1 := ⟨WJ.put hb hu hce hcn hco (by omega) rfl hnone rfl, hh8⟩
        refine TL.pure (PV.assign rfl) rfl (by decide) ?_
        refine TL.nil ?_
        refine TQ.blkN ?_
        refine TQ.thenC ?_
        refine TC.region ?_
        refine TL.pure (PV.add rfl rfl (by omega)) rfl (by decide) ?_
        refine TL.pure (PV.move rfl) rfl (by decide) ?_
        refine TL.nil ?_
        refine TQ.thenN ?_
        refine TQ.backK nx (by repeat (first | exact True.intro | refine And.intro rfl ?_)) (by repeat (first | exact True.intro | refine And.intro rfl ?_)) (by repeat (first | exact List.Sublist.slnil | exact List.nil_sublist _ | exact List.Sublist.refl _ | exact List.sublist_append_left _ _ | refine List.Sublist.cons_cons _ ?_ | refine (List.append_sublist_append_left _).2 ?_ | refine List.Sublist.cons _ ?_ | refine List.Sublist.trans ?_ (List.sublist_append_right _ _))) hnx (by rw [hnu]; omega)
      · skip
        let nx : Nat × HD × List Hv × List Ent := (u.1 + 1, u.2.1, u.2.2.1, u.2.2.2)
        have hnu : nx.1 = u.1 + 1 := rfl
        have hnx : WJ ls x nx.1 nx.2.2.2 nx.2.2.1 es.length l'.length ∧ goR hR nx.2.1 nx.2.2.1 := ⟨hu.skip hce (by omega) (by simpa using hnew), hug⟩
        refine TC.skip ?_
        refine TQ.blkN ?_
        refine TQ.thenC ?_
        refine TC.region ?_
        refine TL.pure (PV.add rfl rfl (by omega)) rfl (by decide) ?_
        refine TL.pure (PV.move rfl) rfl (by decide) ?_
        refine TL.nil ?_
        refine TQ.thenN ?_
        refine TQ.backK nx (by repeat (first | exact True.intro | refine And.intro rfl ?_)) (by repeat (first | exact True.intro | refine And.intro rfl ?_)) (by repeat (first | exact List.Sublist.slnil | exact List.nil_sublist _ | exact List.Sublist.refl _ | exact List.sublist_append_left _ _ | refine List.Sublist.cons_cons _ ?_ | refine (List.append_sublist_append_left _).2 ?_ | refine List.Sublist.cons _ ?_ | refine List.Sublist.trans ?_ (List.sublist_append_right _ _))) hnx (by rw [hnu]; omega)
    · skip
      refine TC.exit ?_
      refine TQ.thenE ?_
      refine TQ.thenE ?_
      refine TQ.blkS ?_
      refine TQ.blkN ?_
      refine TQ.thenN ?_
      refine TQ.backK (u.2.1, u.2.2.1, u.2.2.2) (by repeat (first | exact True.intro | refine And.intro rfl ?_)) (by repeat (first | exact True.intro | refine And.intro rfl ?_)) (by repeat (first | exact List.Sublist.slnil | exact List.nil_sublist _ | exact List.Sublist.refl _ | exact List.sublist_append_left _ _ | refine List.Sublist.cons_cons _ ?_ | refine (List.append_sublist_append_left _).2 ?_ | refine List.Sublist.cons _ ?_ | refine List.Sublist.trans ?_ (List.sublist_append_right _ _))) ⟨hu.done (by omega), hug⟩ (by have h1 := WJ.len_ hb hu; have h2 := hu.cnt; have h3 := hll; simp only [List.length_append, List.length_singleton] at h3 ⊢; omega)
  · skip
    refine TC.exit ?_
    refine TQ.thenE ?_
    refine TQ.thenE ?_
    refine TQ.blkS ?_
    refine TQ.thenC ?_
    refine TC.seq ?_
    have hl0 : l.length = 0 := by first | omega | (simp only at hpos; omega)
    obtain rfl := List.eq_nil_of_length_eq_zero hl0
    refine TC.region ?_
    refine TL.pure (PV.move rfl) rfl (by decide) ?_
    refine TL.pure (PV.assign rfl) rfl (by decide) ?_
    refine TL.nil ?_
    refine TQ.thenC ?_
    refine TC.ret ?_
    refine TQ.retE1 rfl rfl ?_
    exact ⟨(b1, es), rfl, hv, List.Sublist.trans (List.Sublist.cons_cons _ (List.nil_sublist _)) (List.sublist_append_right _ _)⟩

end Go.Proofs.Ytfgjojoipbbacaa

/- Count, and what is joined of the best hollows: contracts. -/
namespace Go.Proofs.Ytfgjojoipbbacaa
open Go.Sx Go.RowKit
def joinS (J : Int → Int → Int) (s : List Int × Int) (e : Ent) : List Int × Int := if s.2 < e.2 then e else if e.2 = s.2 then (List.zipWith J s.1 e.1, s.2) else s
def joinF (J : Int → Int → Int) (es : List Ent) (v : List Nat) : List Int × Int := v.foldl (fun s j => joinS J s (es.getD j default)) (Zl, 0)
theorem joinF_snoc (J : Int → Int → Int) (es : List Ent) (v : List Nat) (j : Nat) : joinF J es (v ++ [j]) = joinS J (joinF J es v) (es.getD j default) := by simp [joinF, List.foldl_append]
/-- The order in which a map's entries came. -/
structure Ord (N : Nat) (v : List Nat) : Prop where
  nd : v.Nodup
  lt : ∀ j ∈ v, j < N
theorem Ord.len {N : Nat} {v : List Nat} (h : Ord N v) : v.length ≤ N := by
  have := h.nd.length_le_of_subset (l₂ := List.range N) (fun j hj => List.mem_range.2 (h.lt j hj))
  rwa [List.length_range] at this
theorem Ord.snoc {N : Nat} {v : List Nat} {j : Nat} (h : Ord N v) (hj : j < N) (hn : j ∉ v) : Ord N (v ++ [j]) :=
  ⟨by rw [List.nodup_append]; exact ⟨h.nd, by simp, fun a ha b hb e => hn (by obtain rfl := List.mem_singleton.1 hb; exact e ▸ ha)⟩, fun i hi => by
    rcases List.mem_append.1 hi with hi | hi
    · exact h.lt i hi
    · obtain rfl := List.mem_singleton.1 hi; exact hj⟩
theorem fold_len {J : Int → Int → Int} {es : List Ent} (he : ∀ q ∈ es, q.1.length = 6) : ∀ {v : List Nat}, (∀ j ∈ v, j < es.length) → (joinF J es v).1.length = 6 := by
  intro v
  suffices h : ∀ (v : List Nat) (s : List Int × Int), s.1.length = 6 → (∀ j ∈ v, j < es.length) → (v.foldl (fun s j => joinS J s (es.getD j default)) s).1.length = 6 from h v _ rfl
  intro v
  induction v with
  | nil => intro s hs _; exact hs
  | cons j r ih =>
    intro s hs hj
    refine ih _ ?_ (fun i hi => hj i (.tail _ hi))
    have h1 : (es.getD j default).1.length = 6 := he _ (by have := hj j (.head _); simp [List.getD, this])
    show (joinS J s (es.getD j default)).1.length = 6
    unfold joinS
    split
    · exact h1
    · split
      · rw [List.length_zipWith]; omega
      · exact hs
set_option maxRecDepth 100000 in
set_option maxHeartbeats 1000000 in
theorem Count_ok (w0 : World) (p : Option Addr) (cap : Nat) (ls : List (List Int)) (hr : LsAt w0 p ls) :
    Calls Try.prog 45 #[bv p ls.length cap] w0 (Post (X := List Ent) (fun es => .tuple #[.int .i64 (if validI ls = 0 then (es.length : Int) else 0), .int .i64 (validI ls)]) (fun es => validI ls = 0 → WI ls es []) (fun _ => []) w0) := by
  refine calls Try.func45 rfl (n := 13) rfl (by simp) ?_
  refine TC.seq ?_
  refine TC.region ?_
  refine TL.box rfl rfl (by decide) (fun b0 hb0 => ?_)
  refine TL.pure (PV.assign rfl) rfl (by decide) ?_
  refine TL.pure (PV.assign rfl) rfl (by decide) ?_
  refine TL.nil ?_
  refine TQ.thenC ?_
  refine TC.seq ?_
  refine TC.seq ?_
  refine TC.region ?_
  refine TL.pure (PV.loadBox rfl Tb.agg_24 (by repeat (first | exact List.Mem.head _ | refine List.Mem.tail _ ?_ | refine List.mem_append_right _ ?_)) rfl) rfl (by decide) ?_
  refine TL.call rfl Tb.gofn_21 (fun a w hs => validate_ok w _ _ _ (hr.new hs.new)) rfl (by decide) (fun _ _ => ?_)
  refine TL.pure (PV.assign rfl) rfl (by decide) ?_
  refine TL.nil ?_
  refine TQ.thenC ?_
  refine TC.seq ?_
  refine TC.region ?_
  refine TL.pure (PV.move rfl) rfl (by decide) ?_
  refine TL.pure (PV.neq rfl rfl) rfl (by decide) ?_
  refine TL.nil ?_
  refine TQ.thenC ?_
  first | refine TC.condD rfl (fun hbad => ?_) (fun hbad => ?_) | refine TC.cond rfl (fun hbad => ?_) (fun hbad => ?_)
  · skip
    refine TC.seq ?_
    refine TC.region ?_
    refine TL.pure (PV.move rfl) rfl (by decide) ?_
    refine TL.pure (PV.assign rfl) rfl (by decide) ?_
    refine TL.pure (PV.assign rfl) rfl (by decide) ?_
    refine TL.nil ?_
    refine TQ.thenC ?_
    refine TC.ret ?_
    refine TQ.thenR ?_
    refine TQ.retE2 rfl rfl rfl ?_
    exact ⟨[], by rw [if_neg hbad], fun h => absurd h hbad, List.nil_sublist _⟩
  · skip
    refine TC.skip ?_
    refine TQ.thenC ?_
    refine TC.seq ?_
    have hb := vb_of hbad
    have hv0 : validI ls = 0 := Decidable.of_not_not hbad
    refine TC.region ?_
    refine TL.pure (PV.loadBox rfl Tb.agg_24 (by repeat (first | exact List.Mem.head _ | refine List.Mem.tail _ ?_ | refine List.mem_append_right _ ?_)) rfl) rfl (by decide) ?_
    refine TL.call rfl Tb.gofn_81 (fun a w hs => worths_ok w _ _ _ (hr.new hs.new) hb) rfl (by decide) (fun y9 hy9 => ?_)
    refine TL.pure (PV.lenM (es := y9.2) rfl map_79 (List.mem_cons_self ..)) rfl (by decide) ?_
    refine TL.pure (PV.assign rfl) rfl (by decide) ?_
    refine TL.pure (PV.assign rfl) rfl (by decide) ?_
    refine TL.nil ?_
    refine TQ.thenC ?_
    refine TC.ret ?_
    refine TQ.retE2 rfl rfl rfl ?_
    exact ⟨y9.2, by rw [if_pos hv0, hv0], fun _ => hy9, List.nil_sublist _⟩

set_option maxRecDepth 100000 in
set_option maxHeartbeats 2000000 in
theorem joinBoth_ok (w0 : World) (p : Option Addr) (cap : Nat) (ls : List (List Int)) (hr : LsAt w0 p ls) :
    Calls Try.prog 68 #[bv p ls.length cap, .func (.func 69) #[] #[]] w0 (Post (X := HD × List Ent × List Nat) (fun x => .tuple #[gval x.1 (if validI ls = 0 then (joinF min x.2.1 x.2.2).1.take ls.length else []).length, .int .i64 (if validI ls = 0 then (joinF min x.2.1 x.2.2).2 else 0), .int .i64 (validI ls)]) (fun x => goI (x.1, if validI ls = 0 then (joinF min x.2.1 x.2.2).1.take ls.length else []) ∧ (validI ls = 0 → WI ls x.2.1 [] ∧ Ord x.2.1.length x.2.2 ∧ ∀ j, j < x.2.1.length → j ∈ x.2.2)) (fun x => gbI (x.1, if validI ls = 0 then (joinF min x.2.1 x.2.2).1.take ls.length else [])) w0) := by
  refine calls Try.func68 rfl (n := 41) rfl (by simp) ?_
  refine TC.seq ?_
  refine TC.region ?_
  refine TL.box rfl rfl (by decide) (fun b0 hb0 => ?_)
  refine TL.pure (PV.assign rfl) rfl (by decide) ?_
  refine TL.pure (PV.assign rfl) rfl (by decide) ?_
  refine TL.pure (PV.assign rfl) rfl (by decide) ?_
  refine TL.nil ?_
  refine TQ.thenC ?_
  refine TC.seq ?_
  refine TC.seq ?_
  refine TC.region ?_
  refine TL.pure (PV.loadBox rfl Tb.agg_24 (by repeat (first | exact List.Mem.head _ | refine List.Mem.tail _ ?_ | refine List.mem_append_right _ ?_)) rfl) rfl (by decide) ?_
  refine TL.call rfl Tb.gofn_21 (fun a w hs => validate_ok w _ _ _ (hr.new hs.new)) rfl (by decide) (fun _ _ => ?_)
  refine TL.pure (PV.assign rfl) rfl (by decide) ?_
  refine TL.nil ?_
  refine TQ.thenC ?_
  refine TC.seq ?_
  refine TC.region ?_
  refine TL.pure (PV.move rfl) rfl (by decide) ?_
  refine TL.pure (PV.neq rfl rfl) rfl (by decide) ?_
  refine TL.nil ?_
  refine TQ.thenC ?_
  first | refine TC.condD rfl (fun hbad => ?_) (fun hbad => ?_) | refine TC.cond rfl (fun hbad => ?_) (fun hbad => ?_)
  · skip
    refine TC.seq ?_
    refine TC.region ?_
    refine TL.pure (PV.move rfl) rfl (by decide) ?_
    refine TL.pure (PV.assign rfl) rfl (by decide) ?_
    refine TL.pure (PV.assign rfl) rfl (by decide) ?_
    refine TL.pure (PV.assign rfl) rfl (by decide) ?_
    refine TL.nil ?_
    refine TQ.thenC ?_
    refine TC.ret ?_
    refine TQ.thenR ?_
    refine TQ.retE3 rfl rfl rfl rfl ?_
    exact ⟨(none, [], []), by rw [if_neg hbad, if_neg hbad]; rfl, ⟨by rw [if_neg hbad]; exact ⟨rfl, rfl⟩, fun h => absurd h hbad⟩, by rw [if_neg hbad]; exact List.nil_sublist _⟩
  · skip
    refine TC.skip ?_
    refine TQ.thenC ?_
    refine TC.seq ?_
    have hb := vb_of hbad
    have hv0 : validI ls = 0 := Decidable.of_not_not hbad
    refine TC.region ?_
    refine TL.alloc Tb.zero_69 rfl (by decide) (fun b8 hb8 => ?_)
    refine TL.nil ?_
    refine TQ.thenC ?_
    refine TC.seq ?_
    refine TC.region ?_
    refine TL.pure (PV.assign rfl) rfl (by decide) ?_
    refine TL.nil ?_
    refine TQ.thenC ?_
    refine TC.seq ?_
    refine TC.seq ?_
    refine TC.region ?_
    refine TL.pure (PV.loadBox rfl Tb.agg_24 (by repeat (first | exact List.Mem.head _ | refine List.Mem.tail _ ?_ | refine List.mem_append_right _ ?_)) rfl) rfl (by decide) ?_
    refine TL.call rfl Tb.gofn_81 (fun a w hs => worths_ok w _ _ _ (hr.new hs.new) hb) rfl (by decide) (fun y9 hy9 => ?_)
    obtain ⟨bM, es⟩ := y9
    have hlen6 : ∀ q ∈ es, q.1.length = 6 := fun q hq => (hy9.good q hq).1.len
    refine TL.rangeM (es := es) rfl map_79 (List.mem_cons_self ..) rfl (by decide) (fun r hr9 => ?_)
    refine TL.nil ?_
    refine TQ.thenC ?_
    refine TC.block ?_
    refine TC.lit [(1, _), (2, _), (4, _), (5, _), (6, _), (8, _), (9, _), (19, _)] (by repeat (first | exact True.intro | refine And.intro rfl ?_)) ?_
    refine TC.loopK [1, 2, 4, 5, 6, 8, 19] (X := List Nat) (fun v => Ord es.length v) (fun v => [(9, .int .i64 (joinF min es v).2)]) (fun v => [(r, iobj bM es v), (bM, mobj es), (b8, Obj.cells (intsA (joinF min es v).1) 69 (0, 0)), (b0, Obj.cells #[.slice p ls.length cap] 24 (0, 0))]) (fun v => es.length - v.length) [] ⟨List.nodup_nil, fun j hj => by cases hj⟩ (by repeat (first | exact True.intro | refine And.intro rfl ?_)) (List.Sublist.refl _) ?_
    intro v hv
    refine TC.lit [(1, _), (2, _), (4, _), (5, _), (6, _), (8, _), (9, _), (19, _)] (by repeat (first | exact True.intro | refine And.intro rfl ?_)) ?_
    refine TC.seq ?_
    refine TC.region ?_
    refine TL.nextM (es := es) (seen := v) (fun o => [(r, iobj bM es (v ++ o.toList)), (bM, mobj es), (b8, Obj.cells (intsA (joinF min es v).1) 69 (0, 0)), (b0, Obj.cells #[.slice p ls.length cap] 24 (0, 0))]) rfl (by repeat (first | exact List.Mem.head _ | refine List.Mem.tail _ ?_ | refine List.mem_append_right _ ?_)) (fun o => Upd.head _) rfl (by decide) (fun o ho => ?_)
    refine TL.pure (PV.nextB rfl) rfl (by decide) ?_
    refine TL.nil ?_
    refine TQ.thenC ?_
    refine TC.seq ?_
    first | refine TC.condD rfl (fun hsome => ?_) (fun hsome => ?_) | refine TC.cond rfl (fun hsome => ?_) (fun hsome => ?_)
    · skip
      obtain ⟨j, rfl⟩ := Option.isSome_iff_exists.1 hsome
      obtain ⟨hj, hjv⟩ := ho
      have hk6 : (es.getD j default).1.length = 6 := hlen6 _ (by simp [List.getD, hj])
      have h6 := fold_len (J := min) hlen6 hv.lt
      have hnx := hv.snoc hj hjv
      have hsn := joinF_snoc min es v j
      refine TC.skip ?_
      refine TQ.thenC ?_
      refine TC.block ?_
      refine TC.seq ?_
      refine TC.region ?_
      refine TL.pure (PV.entryM (es := es) (seen := v) (j := j) rfl (by repeat (first | exact List.Mem.head _ | refine List.Mem.tail _ ?_ | refine List.mem_append_right _ ?_)) (by repeat (first | exact List.Mem.head _ | refine List.Mem.tail _ ?_ | refine List.mem_append_right _ ?_)) hj) rfl (by decide) ?_
      refine TL.pure (PV.extract rfl rfl) rfl (by decide) ?_
      refine TL.pure (PV.extract rfl rfl) rfl (by decide) ?_
      refine TL.alloc Tb.zero_69 rfl (by decide) (fun b10 hb10 => ?_)
      refine TL.storeAgg (vs := (es.getD j default).1.map (Value.int .i64)) rfl rfl Tb.cells_69 (by repeat (first | exact Upd.head _ | apply Upd.tail | apply Upd.appR)) (map_len hk6) rfl (ints_one _) rfl rfl ?_
      refine TL.pure (PV.assign rfl) rfl (by decide) ?_
      refine TL.nil ?_
      refine TQ.thenC ?_
      refine TC.seq ?_
      refine TC.region ?_
      refine TL.pure (PV.move rfl) rfl (by decide) ?_
      refine TL.pure (PV.move rfl) rfl (by decide) ?_
      refine TL.pure (PV.gtr rfl rfl) rfl (by decide) ?_
      refine TL.nil ?_
      refine TQ.thenC ?_
      first | refine TC.condD rfl (fun hgt => ?_) (fun hgt => ?_) | refine TC.cond rfl (fun hgt => ?_) (fun hgt => ?_)
      · skip
        have hst : joinF min es (v ++ [j]) = (es.getD j default) := by rw [hsn]; unfold joinS; rw [if_pos hgt]
        refine TC.region ?_
        refine TL.pure (PV.loadBox (cs := (es.getD j default).1.map (Value.int .i64)) rfl Tb.agg_69 (by repeat (first | exact List.Mem.head _ | refine List.Mem.tail _ ?_ | refine List.mem_append_right _ ?_)) (map_len hk6)) rfl (by decide) ?_
        refine TL.pure (PV.move rfl) rfl (by decide) ?_
        refine TL.storeAgg (vs := (es.getD j default).1.map (Value.int .i64)) rfl rfl Tb.cells_69 (by repeat (first | exact Upd.head _ | apply Upd.tail | apply Upd.appR)) (map_len hk6) (map_len h6) (ints_one _) rfl rfl ?_
        refine TL.pure (PV.assign rfl) rfl (by decide) ?_
        refine TL.nil ?_
        refine TQ.blkN ?_
        refine TQ.thenN ?_
        refine TQ.backK (v ++ [j]) (by rw [hst]; refine And.intro rfl True.intro) (by repeat (first | exact True.intro | refine And.intro rfl ?_)) (by rw [hst]; exact (by repeat (first | exact List.Sublist.slnil | exact List.nil_sublist _ | exact List.Sublist.refl _ | exact List.sublist_append_left _ _ | refine List.Sublist.cons_cons _ ?_ | refine (List.append_sublist_append_left _).2 ?_ | refine List.Sublist.cons _ ?_ | refine List.Sublist.trans ?_ (List.sublist_append_right _ _)))) hnx (by have h1 := hnx.len; simp only [List.length_append, List.length_singleton] at h1 ⊢; omega)
      · skip
        refine TC.seq ?_
        refine TC.region ?_
        refine TL.pure (PV.move rfl) rfl (by decide) ?_
        refine TL.pure (PV.move rfl) rfl (by decide) ?_
        refine TL.pure (PV.eql rfl rfl) rfl (by decide) ?_
        refine TL.nil ?_
        refine TQ.thenC ?_
        first | refine TC.condD rfl (fun heq => ?_) (fun heq => ?_) | refine TC.cond rfl (fun heq => ?_) (fun heq => ?_)
        · skip
          have hst : joinF min es (v ++ [j]) = (List.zipWith min (joinF min es v).1 (es.getD j default).1, (joinF min es v).2) := by rw [hsn]; unfold joinS; rw [if_neg hgt, if_pos heq]
          refine TC.region ?_
          refine TL.pure (PV.move rfl) rfl (by decide) ?_
          refine TL.pure (PV.loadBox (cs := (joinF min es v).1.map (Value.int .i64)) rfl Tb.agg_69 (by repeat (first | exact List.Mem.head _ | refine List.Mem.tail _ ?_ | refine List.mem_append_right _ ?_)) (map_len h6)) rfl (by decide) ?_
          refine TL.pure (PV.loadBox (cs := (es.getD j default).1.map (Value.int .i64)) rfl Tb.agg_69 (by repeat (first | exact List.Mem.head _ | refine List.Mem.tail _ ?_ | refine List.mem_append_right _ ?_)) (map_len hk6)) rfl (by decide) ?_
          refine TL.callF (f := 69) (caps := []) (X := Unit) (fun _ => .agg (intsA (List.zipWith min (joinF min es v).1 (es.getD j default).1))) (fun _ => True) (fun _ => [(b10, Obj.cells (intsA (es.getD j default).1) 69 (0, 0)), (r, iobj bM es (v ++ [j])), (bM, mobj es), (b8, Obj.cells (intsA (joinF min es v).1) 69 (0, 0)), (b0, Obj.cells #[.slice p ls.length cap] 24 (0, 0))]) rfl rfl Tb.gofn_69 (fun a w hs => (both_ok w (joinF min es v).1 (es.getD j default).1 h6 hk6).mono fun e w' ⟨x9, h1, h2, h3⟩ => ⟨x9, h1, h2, hs.new.trans h3⟩) rfl (by decide) (fun _ _ => ?_)
          refine TL.storeAgg (vs := (List.zipWith min (joinF min es v).1 (es.getD j default).1).map (Value.int .i64)) rfl rfl Tb.cells_69 (by repeat (first | exact Upd.head _ | apply Upd.tail | apply Upd.appR)) (map_len (by rw [List.length_zipWith, h6, hk6]; rfl)) (map_len h6) (ints_one _) rfl rfl ?_
          refine TL.nil ?_
          refine TQ.blkN ?_
          refine TQ.thenN ?_
          refine TQ.backK (v ++ [j]) (by rw [hst]; refine And.intro rfl True.intro) (by repeat (first | exact True.intro | refine And.intro rfl ?_)) (by rw [hst]; exact (by repeat (first | exact List.Sublist.slnil | exact List.nil_sublist _ | exact List.Sublist.refl _ | exact List.sublist_append_left _ _ | refine List.Sublist.cons_cons _ ?_ | refine (List.append_sublist_append_left _).2 ?_ | refine List.Sublist.cons _ ?_ | refine List.Sublist.trans ?_ (List.sublist_append_right _ _)))) hnx (by have h1 := hnx.len; simp only [List.length_append, List.length_singleton] at h1 ⊢; omega)
        · skip
          have hst : joinF min es (v ++ [j]) = (joinF min es v) := by rw [hsn]; unfold joinS; rw [if_neg hgt, if_neg heq]
          refine TC.skip ?_
          refine TQ.blkN ?_
          refine TQ.thenN ?_
          refine TQ.backK (v ++ [j]) (by rw [hst]; refine And.intro rfl True.intro) (by repeat (first | exact True.intro | refine And.intro rfl ?_)) (by rw [hst]; exact (by repeat (first | exact List.Sublist.slnil | exact List.nil_sublist _ | exact List.Sublist.refl _ | exact List.sublist_append_left _ _ | refine List.Sublist.cons_cons _ ?_ | refine (List.append_sublist_append_left _).2 ?_ | refine List.Sublist.cons _ ?_ | refine List.Sublist.trans ?_ (List.sublist_append_right _ _)))) hnx (by have h1 := hnx.len; simp only [List.length_append, List.length_singleton] at h1 ⊢; omega)
    · skip
      obtain rfl : o = none := by simpa using hsome
      have h6 := fold_len (J := min) hlen6 hv.lt
      refine TC.exit ?_
      refine TQ.thenE ?_
      refine TQ.thenE ?_
      refine TQ.blkS ?_
      refine TQ.thenC ?_
      refine TC.seq ?_
      refine TC.region ?_
      refine TL.pure (PV.loadBox (cs := (joinF min es v).1.map (Value.int .i64)) rfl Tb.agg_69 (by repeat (first | exact List.Mem.head _ | refine List.Mem.tail _ ?_ | refine List.mem_append_right _ ?_)) (map_len h6)) rfl (by decide) ?_
      refine TL.pure (PV.loadBox rfl Tb.agg_24 (by repeat (first | exact List.Mem.head _ | refine List.Mem.tail _ ?_ | refine List.mem_append_right _ ?_)) rfl) rfl (by decide) ?_
      refine TL.call rfl Tb.gofn_85 (fun a w hs => in_ok w (joinF min es v).1 h6 _ _ _ (hr.new hs.new) hb.n) rfl (by decide) (fun h9 hh9 => ?_)
      refine TL.pure (PV.move rfl) rfl (by decide) ?_
      refine TL.pure (PV.assign rfl) rfl (by decide) ?_
      refine TL.pure (PV.assign rfl) rfl (by decide) ?_
      refine TL.pure (PV.assign rfl) rfl (by decide) ?_
      refine TL.nil ?_
      refine TQ.thenC ?_
      refine TC.ret ?_
      refine TQ.retE3 rfl rfl rfl rfl ?_
      exact ⟨(h9, es, v), by rw [if_pos hv0, if_pos hv0, hv0], ⟨by rw [if_pos hv0]; exact hh9, fun _ => ⟨hy9, hv, ho⟩⟩, by rw [if_pos hv0]; exact List.sublist_append_left _ _⟩

set_option maxRecDepth 100000 in
set_option maxHeartbeats 2000000 in
theorem joinEither_ok (w0 : World) (p : Option Addr) (cap : Nat) (ls : List (List Int)) (hr : LsAt w0 p ls) :
    Calls Try.prog 68 #[bv p ls.length cap, .func (.func 72) #[] #[]] w0 (Post (X := HD × List Ent × List Nat) (fun x => .tuple #[gval x.1 (if validI ls = 0 then (joinF max x.2.1 x.2.2).1.take ls.length else []).length, .int .i64 (if validI ls = 0 then (joinF max x.2.1 x.2.2).2 else 0), .int .i64 (validI ls)]) (fun x => goI (x.1, if validI ls = 0 then (joinF max x.2.1 x.2.2).1.take ls.length else []) ∧ (validI ls = 0 → WI ls x.2.1 [] ∧ Ord x.2.1.length x.2.2 ∧ ∀ j, j < x.2.1.length → j ∈ x.2.2)) (fun x => gbI (x.1, if validI ls = 0 then (joinF max x.2.1 x.2.2).1.take ls.length else [])) w0) := by
  refine calls Try.func68 rfl (n := 41) rfl (by simp) ?_
  refine TC.seq ?_
  refine TC.region ?_
  refine TL.box rfl rfl (by decide) (fun b0 hb0 => ?_)
  refine TL.pure (PV.assign rfl) rfl (by decide) ?_
  refine TL.pure (PV.assign rfl) rfl (by decide) ?_
  refine TL.pure (PV.assign rfl) rfl (by decide) ?_
  refine TL.nil ?_
  refine TQ.thenC ?_
  refine TC.seq ?_
  refine TC.seq ?_
  refine TC.region ?_
  refine TL.pure (PV.loadBox rfl Tb.agg_24 (by repeat (first | exact List.Mem.head _ | refine List.Mem.tail _ ?_ | refine List.mem_append_right _ ?_)) rfl) rfl (by decide) ?_
  refine TL.call rfl Tb.gofn_21 (fun a w hs => validate_ok w _ _ _ (hr.new hs.new)) rfl (by decide) (fun _ _ => ?_)
  refine TL.pure (PV.assign rfl) rfl (by decide) ?_
  refine TL.nil ?_
  refine TQ.thenC ?_
  refine TC.seq ?_
  refine TC.region ?_
  refine TL.pure (PV.move rfl) rfl (by decide) ?_
  refine TL.pure (PV.neq rfl rfl) rfl (by decide) ?_
  refine TL.nil ?_
  refine TQ.thenC ?_
  first | refine TC.condD rfl (fun hbad => ?_) (fun hbad => ?_) | refine TC.cond rfl (fun hbad => ?_) (fun hbad => ?_)
  · skip
    refine TC.seq ?_
    refine TC.region ?_
    refine TL.pure (PV.move rfl) rfl (by decide) ?_
    refine TL.pure (PV.assign rfl) rfl (by decide) ?_
    refine TL.pure (PV.assign rfl) rfl (by decide) ?_
    refine TL.pure (PV.assign rfl) rfl (by decide) ?_
    refine TL.nil ?_
    refine TQ.thenC ?_
    refine TC.ret ?_
    refine TQ.thenR ?_
    refine TQ.retE3 rfl rfl rfl rfl ?_
    exact ⟨(none, [], []), by rw [if_neg hbad, if_neg hbad]; rfl, ⟨by rw [if_neg hbad]; exact ⟨rfl, rfl⟩, fun h => absurd h hbad⟩, by rw [if_neg hbad]; exact List.nil_sublist _⟩
  · skip
    refine TC.skip ?_
    refine TQ.thenC ?_
    refine TC.seq ?_
    have hb := vb_of hbad
    have hv0 : validI ls = 0 := Decidable.of_not_not hbad
    refine TC.region ?_
    refine TL.alloc Tb.zero_69 rfl (by decide) (fun b8 hb8 => ?_)
    refine TL.nil ?_
    refine TQ.thenC ?_
    refine TC.seq ?_
    refine TC.region ?_
    refine TL.pure (PV.assign rfl) rfl (by decide) ?_
    refine TL.nil ?_
    refine TQ.thenC ?_
    refine TC.seq ?_
    refine TC.seq ?_
    refine TC.region ?_
    refine TL.pure (PV.loadBox rfl Tb.agg_24 (by repeat (first | exact List.Mem.head _ | refine List.Mem.tail _ ?_ | refine List.mem_append_right _ ?_)) rfl) rfl (by decide) ?_
    refine TL.call rfl Tb.gofn_81 (fun a w hs => worths_ok w _ _ _ (hr.new hs.new) hb) rfl (by decide) (fun y9 hy9 => ?_)
    obtain ⟨bM, es⟩ := y9
    have hlen6 : ∀ q ∈ es, q.1.length = 6 := fun q hq => (hy9.good q hq).1.len
    refine TL.rangeM (es := es) rfl map_79 (List.mem_cons_self ..) rfl (by decide) (fun r hr9 => ?_)
    refine TL.nil ?_
    refine TQ.thenC ?_
    refine TC.block ?_
    refine TC.lit [(1, _), (2, _), (4, _), (5, _), (6, _), (8, _), (9, _), (19, _)] (by repeat (first | exact True.intro | refine And.intro rfl ?_)) ?_
    refine TC.loopK [1, 2, 4, 5, 6, 8, 19] (X := List Nat) (fun v => Ord es.length v) (fun v => [(9, .int .i64 (joinF max es v).2)]) (fun v => [(r, iobj bM es v), (bM, mobj es), (b8, Obj.cells (intsA (joinF max es v).1) 69 (0, 0)), (b0, Obj.cells #[.slice p ls.length cap] 24 (0, 0))]) (fun v => es.length - v.length) [] ⟨List.nodup_nil, fun j hj => by cases hj⟩ (by repeat (first | exact True.intro | refine And.intro rfl ?_)) (List.Sublist.refl _) ?_
    intro v hv
    refine TC.lit [(1, _), (2, _), (4, _), (5, _), (6, _), (8, _), (9, _), (19, _)] (by repeat (first | exact True.intro | refine And.intro rfl ?_)) ?_
    refine TC.seq ?_
    refine TC.region ?_
    refine TL.nextM (es := es) (seen := v) (fun o => [(r, iobj bM es (v ++ o.toList)), (bM, mobj es), (b8, Obj.cells (intsA (joinF max es v).1) 69 (0, 0)), (b0, Obj.cells #[.slice p ls.length cap] 24 (0, 0))]) rfl (by repeat (first | exact List.Mem.head _ | refine List.Mem.tail _ ?_ | refine List.mem_append_right _ ?_)) (fun o => Upd.head _) rfl (by decide) (fun o ho => ?_)
    refine TL.pure (PV.nextB rfl) rfl (by decide) ?_
    refine TL.nil ?_
    refine TQ.thenC ?_
    refine TC.seq ?_
    first | refine TC.condD rfl (fun hsome => ?_) (fun hsome => ?_) | refine TC.cond rfl (fun hsome => ?_) (fun hsome => ?_)
    · skip
      obtain ⟨j, rfl⟩ := Option.isSome_iff_exists.1 hsome
      obtain ⟨hj, hjv⟩ := ho
      have hk6 : (es.getD j default).1.length = 6 := hlen6 _ (by simp [List.getD, hj])
      have h6 := fold_len (J := max) hlen6 hv.lt
      have hnx := hv.snoc hj hjv
      have hsn := joinF_snoc max es v j
      refine TC.skip ?_
      refine TQ.thenC ?_
      refine TC.block ?_
      refine TC.seq ?_
      refine TC.region ?_
      refine TL.pure (PV.entryM (es := es) (seen := v) (j := j) rfl (by repeat (first | exact List.Mem.head _ | refine List.Mem.tail _ ?_ | refine List.mem_append_right _ ?_)) (by repeat (first | exact List.Mem.head _ | refine List.Mem.tail _ ?_ | refine List.mem_append_right _ ?_)) hj) rfl (by decide) ?_
      refine TL.pure (PV.extract rfl rfl) rfl (by decide) ?_
      refine TL.pure (PV.extract rfl rfl) rfl (by decide) ?_
      refine TL.alloc Tb.zero_69 rfl (by decide) (fun b10 hb10 => ?_)
      refine TL.storeAgg (vs := (es.getD j default).1.map (Value.int .i64)) rfl rfl Tb.cells_69 (by repeat (first | exact Upd.head _ | apply Upd.tail | apply Upd.appR)) (map_len hk6) rfl (ints_one _) rfl rfl ?_
      refine TL.pure (PV.assign rfl) rfl (by decide) ?_
      refine TL.nil ?_
      refine TQ.thenC ?_
      refine TC.seq ?_
      refine TC.region ?_
      refine TL.pure (PV.move rfl) rfl (by decide) ?_
      refine TL.pure (PV.move rfl) rfl (by decide) ?_
      refine TL.pure (PV.gtr rfl rfl) rfl (by decide) ?_
      refine TL.nil ?_
      refine TQ.thenC ?_
      first | refine TC.condD rfl (fun hgt => ?_) (fun hgt => ?_) | refine TC.cond rfl (fun hgt => ?_) (fun hgt => ?_)
      · skip
        have hst : joinF max es (v ++ [j]) = (es.getD j default) := by rw [hsn]; unfold joinS; rw [if_pos hgt]
        refine TC.region ?_
        refine TL.pure (PV.loadBox (cs := (es.getD j default).1.map (Value.int .i64)) rfl Tb.agg_69 (by repeat (first | exact List.Mem.head _ | refine List.Mem.tail _ ?_ | refine List.mem_append_right _ ?_)) (map_len hk6)) rfl (by decide) ?_
        refine TL.pure (PV.move rfl) rfl (by decide) ?_
        refine TL.storeAgg (vs := (es.getD j default).1.map (Value.int .i64)) rfl rfl Tb.cells_69 (by repeat (first | exact Upd.head _ | apply Upd.tail | apply Upd.appR)) (map_len hk6) (map_len h6) (ints_one _) rfl rfl ?_
        refine TL.pure (PV.assign rfl) rfl (by decide) ?_
        refine TL.nil ?_
        refine TQ.blkN ?_
        refine TQ.thenN ?_
        refine TQ.backK (v ++ [j]) (by rw [hst]; refine And.intro rfl True.intro) (by repeat (first | exact True.intro | refine And.intro rfl ?_)) (by rw [hst]; exact (by repeat (first | exact List.Sublist.slnil | exact List.nil_sublist _ | exact List.Sublist.refl _ | exact List.sublist_append_left _ _ | refine List.Sublist.cons_cons _ ?_ | refine (List.append_sublist_append_left _).2 ?_ | refine List.Sublist.cons _ ?_ | refine List.Sublist.trans ?_ (List.sublist_append_right _ _)))) hnx (by have h1 := hnx.len; simp only [List.length_append, List.length_singleton] at h1 ⊢; omega)
      · skip
        refine TC.seq ?_
        refine TC.region ?_
        refine TL.pure (PV.move rfl) rfl (by decide) ?_
        refine TL.pure (PV.move rfl) rfl (by decide) ?_
        refine TL.pure (PV.eql rfl rfl) rfl (by decide) ?_
        refine TL.nil ?_
        refine TQ.thenC ?_
        first | refine TC.condD rfl (fun heq => ?_) (fun heq => ?_) | refine TC.cond rfl (fun heq => ?_) (fun heq => ?_)
        · skip
          have hst : joinF max es (v ++ [j]) = (List.zipWith max (joinF max es v).1 (es.getD j default).1, (joinF max es v).2) := by rw [hsn]; unfold joinS; rw [if_neg hgt, if_pos heq]
          refine TC.region ?_
          refine TL.pure (PV.move rfl) rfl (by decide) ?_
          refine TL.pure (PV.loadBox (cs := (joinF max es v).1.map (Value.int .i64)) rfl Tb.agg_69 (by repeat (first | exact List.Mem.head _ | refine List.Mem.tail _ ?_ | refine List.mem_append_right _ ?_)) (map_len h6)) rfl (by decide) ?_
          refine TL.pure (PV.loadBox (cs := (es.getD j default).1.map (Value.int .i64)) rfl Tb.agg_69 (by repeat (first | exact List.Mem.head _ | refine List.Mem.tail _ ?_ | refine List.mem_append_right _ ?_)) (map_len hk6)) rfl (by decide) ?_
          refine TL.callF (f := 72) (caps := []) (X := Unit) (fun _ => .agg (intsA (List.zipWith max (joinF max es v).1 (es.getD j default).1))) (fun _ => True) (fun _ => [(b10, Obj.cells (intsA (es.getD j default).1) 69 (0, 0)), (r, iobj bM es (v ++ [j])), (bM, mobj es), (b8, Obj.cells (intsA (joinF max es v).1) 69 (0, 0)), (b0, Obj.cells #[.slice p ls.length cap] 24 (0, 0))]) rfl rfl Tb.gofn_72 (fun a w hs => (either_ok w (joinF max es v).1 (es.getD j default).1 h6 hk6).mono fun e w' ⟨x9, h1, h2, h3⟩ => ⟨x9, h1, h2, hs.new.trans h3⟩) rfl (by decide) (fun _ _ => ?_)
          refine TL.storeAgg (vs := (List.zipWith max (joinF max es v).1 (es.getD j default).1).map (Value.int .i64)) rfl rfl Tb.cells_69 (by repeat (first | exact Upd.head _ | apply Upd.tail | apply Upd.appR)) (map_len (by rw [List.length_zipWith, h6, hk6]; rfl)) (map_len h6) (ints_one _) rfl rfl ?_
          refine TL.nil ?_
          refine TQ.blkN ?_
          refine TQ.thenN ?_
          refine TQ.backK (v ++ [j]) (by rw [hst]; refine And.intro rfl True.intro) (by repeat (first | exact True.intro | refine And.intro rfl ?_)) (by rw [hst]; exact (by repeat (first | exact List.Sublist.slnil | exact List.nil_sublist _ | exact List.Sublist.refl _ | exact List.sublist_append_left _ _ | refine List.Sublist.cons_cons _ ?_ | refine (List.append_sublist_append_left _).2 ?_ | refine List.Sublist.cons _ ?_ | refine List.Sublist.trans ?_ (List.sublist_append_right _ _)))) hnx (by have h1 := hnx.len; simp only [List.length_append, List.length_singleton] at h1 ⊢; omega)
        · skip
          have hst : joinF max es (v ++ [j]) = (joinF max es v) := by rw [hsn]; unfold joinS; rw [if_neg hgt, if_neg heq]
          refine TC.skip ?_
          refine TQ.blkN ?_
          refine TQ.thenN ?_
          refine TQ.backK (v ++ [j]) (by rw [hst]; refine And.intro rfl True.intro) (by repeat (first | exact True.intro | refine And.intro rfl ?_)) (by rw [hst]; exact (by repeat (first | exact List.Sublist.slnil | exact List.nil_sublist _ | exact List.Sublist.refl _ | exact List.sublist_append_left _ _ | refine List.Sublist.cons_cons _ ?_ | refine (List.append_sublist_append_left _).2 ?_ | refine List.Sublist.cons _ ?_ | refine List.Sublist.trans ?_ (List.sublist_append_right _ _)))) hnx (by have h1 := hnx.len; simp only [List.length_append, List.length_singleton] at h1 ⊢; omega)
    · skip
      obtain rfl : o = none := by simpa using hsome
      have h6 := fold_len (J := max) hlen6 hv.lt
      refine TC.exit ?_
      refine TQ.thenE ?_
      refine TQ.thenE ?_
      refine TQ.blkS ?_
      refine TQ.thenC ?_
      refine TC.seq ?_
      refine TC.region ?_
      refine TL.pure (PV.loadBox (cs := (joinF max es v).1.map (Value.int .i64)) rfl Tb.agg_69 (by repeat (first | exact List.Mem.head _ | refine List.Mem.tail _ ?_ | refine List.mem_append_right _ ?_)) (map_len h6)) rfl (by decide) ?_
      refine TL.pure (PV.loadBox rfl Tb.agg_24 (by repeat (first | exact List.Mem.head _ | refine List.Mem.tail _ ?_ | refine List.mem_append_right _ ?_)) rfl) rfl (by decide) ?_
      refine TL.call rfl Tb.gofn_85 (fun a w hs => in_ok w (joinF max es v).1 h6 _ _ _ (hr.new hs.new) hb.n) rfl (by decide) (fun h9 hh9 => ?_)
      refine TL.pure (PV.move rfl) rfl (by decide) ?_
      refine TL.pure (PV.assign rfl) rfl (by decide) ?_
      refine TL.pure (PV.assign rfl) rfl (by decide) ?_
      refine TL.pure (PV.assign rfl) rfl (by decide) ?_
      refine TL.nil ?_
      refine TQ.thenC ?_
      refine TC.ret ?_
      refine TQ.retE3 rfl rfl rfl rfl ?_
      exact ⟨(h9, es, v), by rw [if_pos hv0, if_pos hv0, hv0], ⟨by rw [if_pos hv0]; exact hh9, fun _ => ⟨hy9, hv, ho⟩⟩, by rw [if_pos hv0]; exact List.sublist_append_left _ _⟩

end Go.Proofs.Ytfgjojoipbbacaa

/- Best, Deepest: contracts; every right hollow is found. -/
namespace Go.Proofs.Ytfgjojoipbbacaa
open Go.Sx Go.RowKit
theorem deepest {k : List Int} : ∀ n, 0 < n → ∃ c, c < n ∧ ∀ d, d < n → k.getD d 0 ≤ k.getD c 0
  | 0, h => by omega
  | 1, _ => ⟨0, by omega, fun d hd => by
      have e : d = 0 := by omega
      subst e
      exact Int.le_refl _⟩
  | n + 2, _ => by
    obtain ⟨c, hc, h⟩ := deepest (k := k) (n + 1) (by omega)
    by_cases e : k.getD (n + 1) 0 ≤ k.getD c 0
    · exact ⟨c, by omega, fun d hd => by
        by_cases e2 : d < n + 1
        · exact h d e2
        · obtain rfl : d = n + 1 := by omega
          exact e⟩
    · exact ⟨n + 1, by omega, fun d hd => by
        by_cases e2 : d < n + 1
        · have := h d e2; omega
        · obtain rfl : d = n + 1 := by omega
          exact Int.le_refl _⟩
theorem set_back {k : List Int} {c : Nat} (hc : c < k.length) : (k.set c (k.getD c 0 - 1)).set c ((k.set c (k.getD c 0 - 1)).getD c 0 + 1) = k := by
  rw [set_at hc, if_pos rfl]
  refine ints_ext (by simp) fun j hj => ?_
  rw [set_at (by simpa using hc)]
  by_cases e : c = j
  · subst e; rw [if_pos rfl]; omega
  · rw [if_neg e, set_at hc, if_neg e]
theorem RH.back {ls : List (List Int)} {k : List Int} {c : Nat} (hb : VB ls) (h : RH ls k) (hc : c < ls.length) (h0 : 0 < k.getD c 0) (hm : ∀ d, d < ls.length → k.getD d 0 ≤ k.getD c 0) : RH ls (k.set c (k.getD c 0 - 1)) ∧ opB ls (k.set c (k.getD c 0 - 1)) c = true := by
  have hn := hb.n
  have hl := h.len
  have hrc := h.rng c hc
  refine ⟨⟨by simp [hl], fun d hd => ?_, fun d hd => ?_, fun d hd => ?_⟩, op_yes ?_ fun u hu => ?_⟩
  · rw [set_at (by omega)]
    have := h.rng d hd
    split <;> omega
  · rw [set_at (by omega), if_neg (by omega)]
    exact h.out d hd
  · rw [set_at (by omega), set_at (by omega)]
    have h1 := h.stp d hd
    have h2 := hm d (by omega)
    have h3 := hm (d + 1) hd
    by_cases e1 : c = d
    · subst e1
      rw [if_neg (by omega), if_pos rfl]
      omega
    · by_cases e2 : c = d + 1
      · subst e2
        rw [if_pos rfl, if_neg (by omega)]
        omega
      · rw [if_neg e2, if_neg e1]
        exact h1
  · rw [set_at (by omega), if_pos rfl]
    omega
  · obtain ⟨n1, n2⟩ := near_bd hu
    have hmem : (nearL ls c).getD u 0 ∈ nearL ls c := by
      rw [show (nearL ls c).getD u 0 = (nearL ls c)[u] by simp [List.getD, hu]]
      exact List.getElem_mem _
    have h3 := (List.mem_filter.1 hmem).1
    generalize (nearL ls c).getD u 0 = e at n1 n2 h3
    simp only [List.mem_cons, List.not_mem_nil, or_false] at h3
    rw [set_at (by omega), set_at (by omega), if_pos rfl]
    by_cases e1 : c = e.toNat
    · rw [if_pos e1]; omega
    · rw [if_neg e1]
      rcases h3 with h3 | h3 | h3
      · have h4 := h.stp e.toNat (by omega)
        rw [show e.toNat + 1 = c by omega] at h4
        omega
      · omega
      · have h4 := h.stp c (by omega)
        rw [show c + 1 = e.toNat by omega] at h4
        omega
def totN (k : List Int) : Nat → Nat
  | 0 => 0
  | n + 1 => totN k n + (k.getD n 0).toNat
theorem tot_set {k : List Int} {c : Nat} (hc : c < k.length) (h0 : 0 < k.getD c 0) : ∀ n, totN (k.set c (k.getD c 0 - 1)) n + (if c < n then 1 else 0) = totN k n
  | 0 => rfl
  | n + 1 => by
    have ih := tot_set hc h0 n
    show totN (k.set c (k.getD c 0 - 1)) n + ((k.set c (k.getD c 0 - 1)).getD n 0).toNat + _ = totN k n + (k.getD n 0).toNat
    rw [set_at hc, ← ih]
    by_cases e : c = n
    · subst e
      rw [if_pos rfl, if_pos (by omega), if_neg (Nat.lt_irrefl _)]
      omega
    · rw [if_neg e]
      by_cases h : c < n
      · rw [if_pos h, if_pos (by omega)]; omega
      · rw [if_neg h, if_neg (by omega)]; omega
/-- Every right hollow is found. -/
theorem WI.all {ls : List (List Int)} {es : List Ent} (hb : VB ls) (h : WI ls es []) : ∀ (t : Nat) (k : List Int), RH ls k → totN k ls.length = t → k ∈ keysE es := by
    intro t
    induction t using Nat.strongRecOn with
    | _ t ihh => ?_
    intro k hk ht
    have hn := hb.n
    obtain ⟨c, hc, hm⟩ := deepest (k := k) ls.length (by omega)
    have hrc := hk.rng c hc
    by_cases h0 : k.getD c 0 = 0
    · have e : k = Zl := ints_ext hk.len fun j _ => by
        rw [Zl_at]
        by_cases hj : j < ls.length
        · have h1 := hm j hj
          have h2 := hk.rng j hj
          omega
        · exact hk.out j (by omega)
      rw [e]
      exact h.zero
    · obtain ⟨h1, h2⟩ := hk.back hb hc (by omega) hm
      have hts := tot_set (k := k) (c := c) (by have := hk.len; omega) (by omega) ls.length
      rw [if_pos hc] at hts
      have := ihh (totN (k.set c (k.getD c 0 - 1)) ls.length) (by omega) _ h1 rfl
      have h3 := h.clo _ this (by simp) c hc h2
      rwa [set_back (by have := hk.len; omega)] at h3


set_option maxRecDepth 100000 in
set_option maxHeartbeats 1000000 in
theorem Best_ok (w0 : World) (p : Option Addr) (cap : Nat) (ls : List (List Int)) (hr : LsAt w0 p ls) :
    Calls Try.prog 25 #[bv p ls.length cap] w0 (Post (X := HD × List Ent × List Nat) (fun x => .tuple #[gval x.1 (if validI ls = 0 then (joinF min x.2.1 x.2.2).1.take ls.length else []).length, .int .i64 (if validI ls = 0 then (joinF min x.2.1 x.2.2).2 else 0), .int .i64 (validI ls)]) (fun x => goI (x.1, if validI ls = 0 then (joinF min x.2.1 x.2.2).1.take ls.length else []) ∧ (validI ls = 0 → WI ls x.2.1 [] ∧ Ord x.2.1.length x.2.2 ∧ ∀ j, j < x.2.1.length → j ∈ x.2.2)) (fun x => gbI (x.1, if validI ls = 0 then (joinF min x.2.1 x.2.2).1.take ls.length else [])) w0) := by
  refine calls Try.func25 rfl (n := 10) rfl (by simp) ?_
  refine TC.seq ?_
  refine TC.region ?_
  refine TL.box rfl rfl (by decide) (fun b0 hb0 => ?_)
  refine TL.pure (PV.assign rfl) rfl (by decide) ?_
  refine TL.pure (PV.assign rfl) rfl (by decide) ?_
  refine TL.pure (PV.assign rfl) rfl (by decide) ?_
  refine TL.nil ?_
  refine TQ.thenC ?_
  refine TC.seq ?_
  refine TC.region ?_
  refine TL.pure (PV.loadBox rfl Tb.agg_24 (by repeat (first | exact List.Mem.head _ | refine List.Mem.tail _ ?_ | refine List.mem_append_right _ ?_)) rfl) rfl (by decide) ?_
  refine TL.call rfl Tb.gofn_68 (fun a w hs => joinBoth_ok w _ _ _ (hr.new hs.new)) rfl (by decide) (fun y9 hy9 => ?_)
  refine TL.pure (PV.extract rfl rfl) rfl (by decide) ?_
  refine TL.pure (PV.extract rfl rfl) rfl (by decide) ?_
  refine TL.pure (PV.extract rfl rfl) rfl (by decide) ?_
  refine TL.pure (PV.assign rfl) rfl (by decide) ?_
  refine TL.pure (PV.assign rfl) rfl (by decide) ?_
  refine TL.pure (PV.assign rfl) rfl (by decide) ?_
  refine TL.nil ?_
  refine TQ.thenC ?_
  refine TC.ret ?_
  refine TQ.retE3 rfl rfl rfl rfl ?_
  exact ⟨y9, rfl, hy9, List.sublist_append_left _ _⟩

set_option maxRecDepth 100000 in
set_option maxHeartbeats 1000000 in
theorem Deepest_ok (w0 : World) (p : Option Addr) (cap : Nat) (ls : List (List Int)) (hr : LsAt w0 p ls) :
    Calls Try.prog 27 #[bv p ls.length cap] w0 (Post (X := HD × List Ent × List Nat) (fun x => .tuple #[gval x.1 (if validI ls = 0 then (joinF max x.2.1 x.2.2).1.take ls.length else []).length, .int .i64 (if validI ls = 0 then (joinF max x.2.1 x.2.2).2 else 0), .int .i64 (validI ls)]) (fun x => goI (x.1, if validI ls = 0 then (joinF max x.2.1 x.2.2).1.take ls.length else []) ∧ (validI ls = 0 → WI ls x.2.1 [] ∧ Ord x.2.1.length x.2.2 ∧ ∀ j, j < x.2.1.length → j ∈ x.2.2)) (fun x => gbI (x.1, if validI ls = 0 then (joinF max x.2.1 x.2.2).1.take ls.length else [])) w0) := by
  refine calls Try.func27 rfl (n := 10) rfl (by simp) ?_
  refine TC.seq ?_
  refine TC.region ?_
  refine TL.box rfl rfl (by decide) (fun b0 hb0 => ?_)
  refine TL.pure (PV.assign rfl) rfl (by decide) ?_
  refine TL.pure (PV.assign rfl) rfl (by decide) ?_
  refine TL.pure (PV.assign rfl) rfl (by decide) ?_
  refine TL.nil ?_
  refine TQ.thenC ?_
  refine TC.seq ?_
  refine TC.region ?_
  refine TL.pure (PV.loadBox rfl Tb.agg_24 (by repeat (first | exact List.Mem.head _ | refine List.Mem.tail _ ?_ | refine List.mem_append_right _ ?_)) rfl) rfl (by decide) ?_
  refine TL.call rfl Tb.gofn_68 (fun a w hs => joinEither_ok w _ _ _ (hr.new hs.new)) rfl (by decide) (fun y9 hy9 => ?_)
  refine TL.pure (PV.extract rfl rfl) rfl (by decide) ?_
  refine TL.pure (PV.extract rfl rfl) rfl (by decide) ?_
  refine TL.pure (PV.extract rfl rfl) rfl (by decide) ?_
  refine TL.pure (PV.assign rfl) rfl (by decide) ?_
  refine TL.pure (PV.assign rfl) rfl (by decide) ?_
  refine TL.pure (PV.assign rfl) rfl (by decide) ?_
  refine TL.nil ?_
  refine TQ.thenC ?_
  refine TC.ret ?_
  refine TQ.retE3 rfl rfl rfl rfl ?_
  exact ⟨y9, rfl, hy9, List.sublist_append_left _ _⟩

end Go.Proofs.Ytfgjojoipbbacaa

/- Three calls whose answers are known: contracts. -/
namespace Go.Proofs.Ytfgjojoipbbacaa
open Go.Sx Go.RowKit
def L7 : List (List Int) := [[0, 0, 0, 0, 0, 0], [0, 1, 0, 0, 0, 0], [1, 0, 0, 0, 0, 0], [1, 1, 0, 0, 0, 0], [1, 2, 0, 0, 0, 0], [2, 1, 0, 0, 0, 0], [2, 2, 0, 0, 0, 0]]
end Go.Proofs.Ytfgjojoipbbacaa

/- Hollows are checked and valued as the reference has it: contract. -/
namespace Go.Proofs.Ytfgjojoipbbacaa
open Go.Sx Go.RowKit
theorem fill_o (x : Option Addr) (n c : Nat) : Instr.fill (fun i => some (i * 1, 1)) ((Array.range (1 * 1)).map ((Value.slice none 0 0).cells[· % (Value.slice none 0 0).cells.size]!)) [(0, .slice x n c)] = some #[.slice x n c] := by kernel_rfl
theorem LsAt.one {w0 w : World} {G : Heap} {bO cl : Nat} {e : TypeId} {pl : Option Addr} {xs : List Int} (hn : New w0 w G) (hO : (bO, Obj.cells #[.slice pl xs.length cl] e (0, 0)) ∈ G) (hx : IntsAt w pl xs) : LsAt w (some ⟨bO, 0, none⟩) [xs] := by
  intro j hj
  have e : j = 0 := by simp only [List.length_cons, List.length_nil] at hj; omega
  subst e
  refine ⟨_, rfl, pl, cl, ?_, hx⟩
  rw [add_off]
  exact hn.cell hO rfl
theorem CapsAt.new {w0 w : World} {G : Heap} {p : Option Addr} {ls : List (List Int)} (h : CapsAt w0 p ls) (hr : LsAt w0 p ls) (hn : New w0 w G) : CapsAt w p ls := by
  intro j hj q pj cj l hp hq
  obtain ⟨q2, hq2, pj2, cj2, h1, _⟩ := hr j hj
  rw [hp] at hq2
  cases hq2
  have h2 := hn.old h1
  rw [hq] at h2
  cases h2
  exact h j hj _ _ _ _ hp h1


end Go.Proofs.Ytfgjojoipbbacaa

