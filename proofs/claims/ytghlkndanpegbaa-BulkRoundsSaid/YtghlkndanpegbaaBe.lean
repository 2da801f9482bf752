/- Labels of stores and buyers, lowered: contracts. -/
import Derived.Test.YtghlkndanpegbaaBd
import Derived.Test.YtghlkndanpegbaaPd
set_option linter.unusedVariables false
set_option linter.unusedSimpArgs false
namespace Go.Proofs.Ytghlkndanpegbaa
open Go.Sx Go.RowKit Go.Sand Go.Tp

def arrOf (P : Program) (t : Nat) : Option (Nat × Nat × Nat) :=
  match P.underlying t with
  | some (.array n e) => (P.info? e).map fun i => (n, e, i.size)
  | _ => none
section
variable {P : Program} {n : Nat} {w0 : World} {E : Env} {G : Heap} {d : Option Nat} {ty : TypeId} {pos : String} {aft : Array Edge} {g : Option (Nat × Bool)}
/-- &a[i]. -/
theorem PV.indexArr {x y : Operand} {b m e j : Nat} {i : Int} {t : Nat} (hx : evo E x = some (.pointer (some ⟨b, 0, none⟩))) (hy : evo E y = some (.int .i64 i))
    (ht : arrOf P t = some (m, e, 1)) (hi : i = (j : Int)) (hj : j < m) : PV P n w0 E G ⟨d, .indexAddr t x y, ty, pos, aft, g⟩ (.pointer (some ⟨b, j, none⟩)) :=
  fun a w hs => by
    unfold arrOf at ht
    cases hu : P.underlying t with
    | none => simp [hu] at ht
    | some u =>
      cases u <;> simp only [hu] at ht <;> try (simp at ht; done)
      rename_i m' e'
      cases hi2 : P.info? e' with
      | none => simp [hi2] at ht
      | some inf =>
        simp [hi2] at ht
        obtain ⟨rfl, rfl, h3⟩ := ht
        subst hi
        simp only [execOp, hs.ev hx, hs.ev hy]
        simp [Instr.indexAt, run_underlying hu, asIntOf, Instr.sureAddr, sizeOf, typeInfo, hi2, h3, hj, add_off]
end
theorem zero_run {P : Program} {e : Nat} {z : Value} (h : zeroOf P e = some z) (w : World) : (zeroValue e).run P w = .ok z w := by
  unfold zeroOf at h
  cases hi : P.info? e with
  | none => simp [hi] at h
  | some i =>
    simp [hi] at h
    simp [zeroValue, typeInfo, hi, h]

section
variable {P : Program} {n : Nat} {w0 : World} {E : Env} {G : Heap} {d : Option Nat} {ty : TypeId} {pos : String} {aft : Array Edge} {g : Option (Nat × Bool)}
theorem PV.buildArr {t m e sz : Nat} {parts : List (Nat × Operand)} {ps : List (Nat × Value)} {a cs : Array Value} (hx : evp E parts = some ps) (hz : zeroOf P t = some (.agg a)) (ha : arrOf P t = some (m, e, sz)) (hf : Instr.fill (fun i => some (i * sz, sz)) a ps = some cs) : PV P n w0 E G ⟨d, .build t parts.toArray, ty, pos, aft, g⟩ (.agg cs) :=
  fun A w hs => by
    unfold arrOf at ha
    cases hu : P.underlying t with
    | none => simp [hu] at ha
    | some u =>
      cases u <;> simp only [hu] at ha <;> try (simp at ha; done)
      rename_i m' e'
      cases hi2 : P.info? e' with
      | none => simp [hi2] at ha
      | some inf =>
        simp [hi2] at ha
        obtain ⟨rfl, rfl, rfl⟩ := ha
        have hzr := zero_run hz w
        have hps := hs.evp hx
        simp only [execOp, List.map_toArray, hps]
        simp [Instr.build, hzr, run_underlying hu, sizeOf, typeInfo, hi2, Value.cells, hf]
end
theorem arr_84 : arrOf Try.prog 84 = some (2, 3, 1) := by kernel_rfl
/-- A label. -/
structure Lab where
  c : Int
  f : Int
  deriving Inhabited
def labR : Rec Lab where
  cells r := [.int .i64 r.c, .int .i64 r.f]
  sz := 2
  len := fun _ => rfl
  one := fun r v hv => by
    simp only [List.mem_cons, List.not_mem_nil, or_false] at hv
    rcases hv with rfl | rfl <;> rfl
  pos := by decide
/-- A list of records, given by a function. -/
def mkL {α : Type} (n : Nat) (f : Nat → α) : List α := (List.range n).map f
theorem mkL_len {α : Type} (n : Nat) (f : Nat → α) : (mkL n f).length = n := by simp [mkL]
theorem mkL_at {α : Type} [Inhabited α] {n : Nat} (f : Nat → α) {j : Nat} (hj : j < n) : (mkL n f).getD j default = f j := by simp [mkL, List.getD, hj]
theorem mkL_congr {α : Type} {n : Nat} {f h : Nat → α} (e : ∀ j, j < n → f j = h j) : mkL n f = mkL n h := List.map_congr_left fun j hj => e j (List.mem_range.1 hj)
theorem mkL_set {α : Type} {n : Nat} {f h : Nat → α} {i : Nat} {v : α} (hi : i < n) (hv : v = h i) (e : ∀ j, j < n → j ≠ i → f j = h j) : (mkL n f).set i v = mkL n h := by
  refine List.ext_getElem (by rw [List.length_set, mkL_len, mkL_len]) fun j h1 h2 => ?_
  rw [mkL_len] at h2
  rw [List.getElem_set]
  by_cases e2 : i = j
  · subst e2; rw [if_pos rfl, hv]; simp [mkL]
  · rw [if_neg e2]; simp only [mkL, List.getElem_map, List.getElem_range]; exact e j h2 (fun h => e2 h.symm)
def Hk {α : Type} (R : Rec α) (h : HD) (n : Nat) : Prop := ∀ l : List α, l.length = n → goR R h l
theorem Hk.of {α : Type} {R : Rec α} {h : HD} {l : List α} (ho : goR R h l) : Hk R h l.length := fun l' e => goR_len ho e
theorem Hk.g {α : Type} {R : Rec α} {h : HD} {n : Nat} (hk : Hk R h n) {l : List α} (e : l.length = n) : gok h n R.sz (rcs R l) := by have := hk l e; unfold goR at this; rwa [e] at this
open Go.Tp
abbrev sL (S : Nat) (s : LS) : List Lab := mkL S fun i => ⟨s.a i, s.pa i⟩
abbrev bL (B : Nat) (s : LS) : List Lab := mkL B fun j => ⟨s.b j, s.pb j⟩
theorem bL_low {S B k i j : Nat} {s : LS} {v : Int} (hj : j < B) : (bL B s).set j ⟨v, i⟩ = bL B (lowB s k i j v) := mkL_set hj (by show _ = (⟨put s.b j v j, put s.pb j (i : Int) j⟩ : Lab); rw [put_k, put_k]) fun q _ hq => by
  show (⟨s.b q, s.pb q⟩ : Lab) = ⟨put s.b j v q, put s.pb j (i : Int) q⟩
  rw [put_ne _ _ hq, put_ne _ _ hq]
theorem sL_low {S B k i j : Nat} {s : LS} {v : Int} (hi : i < S) : (sL S s).set i ⟨v, j⟩ = sL S (lowS s k i j v) := mkL_set hi (by show _ = (⟨put s.a i v i, put s.pa i (j : Int) i⟩ : Lab); rw [put_k, put_k]) fun q _ hq => by
  show (⟨s.a q, s.pa q⟩ : Lab) = ⟨put s.a i v q, put s.pa i (j : Int) q⟩
  rw [put_ne _ _ hq, put_ne _ _ hq]
theorem lab_c {n : Nat} {f : Nat → Lab} {j : Nat} (hj : j < n) : (labR.cells ((mkL n f).getD j default))[0]? = some (.int .i64 (f j).c) := by rw [mkL_at f hj]; rfl
theorem lab_f {n : Nat} {f : Nat → Lab} {j : Nat} (hj : j < n) : (labR.cells ((mkL n f).getD j default))[1]? = some (.int .i64 (f j).f) := by rw [mkL_at f hj]; rfl
/-- Labels that can be read. -/
def IsL (w : World) (v : Value) (S B : Nat) (s : LS) : Prop := ∃ p c q e, v = .agg #[.slice p S c, .slice q B e] ∧ RecsAt labR w p (sL S s) ∧ RecsAt labR w q (bL B s)
theorem IsL.new {w0 w : World} {G : Heap} {v : Value} {S B : Nat} {s : LS} (h : IsL w0 v S B s) (hn : New w0 w G) : IsL w v S B s := by
  obtain ⟨p, c, q, e, rfl, h1, h2⟩ := h
  exact ⟨p, c, q, e, rfl, h1.new hn, h2.new hn⟩
theorem IsL.of {w0 w : World} {G : Heap} {hs hb : HD} {S B : Nat} {s : LS} (hn : New w0 w G) (k1 : Hk labR hs S) (k2 : Hk labR hb B) (m1 : ∀ y ∈ gbR labR 110 hs (sL S s), y ∈ G) (m2 : ∀ y ∈ gbR labR 110 hb (bL B s), y ∈ G) : IsL w (.agg #[gval hs S, gval hb B]) S B s := by
  refine ⟨gp hs, gc hs, gp hb, gc hb, ?_, RecsAt.s hn m1 (k1 _ (mkL_len _ _)), RecsAt.s hn m2 (k2 _ (mkL_len _ _))⟩
  rw [gval_eq (k1.g (mkL_len S fun i => ⟨s.a i, s.pa i⟩)), gval_eq (k2.g (mkL_len B fun j => ⟨s.b j, s.pb j⟩))]
theorem lab_go0 (b n : Nat) : Hk labR (some (b, n, [])) n := fun l hl => by
  refine ⟨rcs_len _, ?_⟩
  show n * 2 = (rcs labR _).length + 0 ∧ _
  rw [rcs_len, hl]
  exact ⟨by show n * 2 = n * 2 + 0; omega, Nat.le_refl _⟩
theorem lab_blk0 (b n : Nat) : (b, Obj.cells (recA (List.replicate n [Value.int .i64 0, Value.int .i64 0])) 110 (0, 0)) = (b, Obj.cells (rcs labR (List.replicate n ⟨0, 0⟩) ++ []).toArray 110 (0, 0)) := by
  unfold recA
  rw [List.append_nil, rcs_flat, List.map_replicate]
  rfl
theorem mkL_rep {α : Type} (n : Nat) (v : α) : List.replicate n v = mkL n fun _ => v := List.ext_getElem (by simp [mkL]) fun j h1 h2 => by simp [mkL]
def fil (j : Nat) (q : Nat) : Lab := if q < j then ⟨100, 0⟩ else ⟨0, 0⟩
theorem fil_set {n j : Nat} (hj : j < n) : (mkL n (fil j)).set j ⟨100, 0⟩ = mkL n (fil (j + 1)) := mkL_set hj (by unfold fil; rw [if_pos (by omega)]) fun q _ hq => by
  unfold fil
  by_cases h : q < j
  · rw [if_pos h, if_pos (by omega)]
  · rw [if_neg h, if_neg (by omega)]
def s0 : LS := ⟨fun _ => 0, fun _ => 0, fun _ => 0, fun _ => 100, fun _ => 0, fun _ => 0⟩
theorem fil_0 (n : Nat) : mkL n (fil 0) = List.replicate n ⟨0, 0⟩ := by rw [mkL_rep]; exact mkL_congr fun q _ => if_neg (Nat.not_lt_zero _)
theorem fil_all {n j : Nat} (h : n ≤ j) : mkL n (fil j) = bL n s0 := mkL_congr fun q hq => if_pos (by omega)
theorem lab_mk (b n : Nat) (R : Heap) : (b, Obj.cells (recA (List.replicate n [Value.int .i64 0, Value.int .i64 0])) 110 (0, 0)) :: R = gbR labR 110 (some (b, n, [])) (mkL n fun _ => ⟨0, 0⟩) ++ R := by
  rw [lab_blk0, mkL_rep]
  rfl
theorem gv2_one (h k : HD) (a b : Nat) : [gval h a, gval k b].all Value.oneCell' = true := by
  simp [gval_one]
theorem VT.cb {t : Td} (h : VT t) : ∀ i j, i < t.s.length → j < t.d.length → 0 ≤ getM t.c i j ∧ getM t.c i j ≤ 99 := h.c.bd
abbrev LD (S B : Nat) (hs hb : HD) (s : LS) (R : Heap) : Heap := gbR labR 110 hs (sL S s) ++ (gbR labR 110 hb (bL B s) ++ R)


set_option maxRecDepth 100000 in
set_option maxHeartbeats 2000000 in
theorem startLabels_ok (w0 : World) (vt : Value) (t : Td) (ht : IsT w0 vt t) (hV : VT t) :
    Calls Try.prog 90 #[vt] w0 (Post (X := HD × HD) (fun y => .agg #[gval y.1 t.s.length, gval y.2 t.d.length]) (fun y => Hk labR y.1 t.s.length ∧ Hk labR y.2 t.d.length) (fun y => LD t.s.length t.d.length y.1 y.2 s0 []) w0) := by
  obtain ⟨p1, c1, p2, c2, p3, c3, rfl, t1, t2, t3⟩ := ht
  have hns := hV.ns
  have hnd := hV.nd
  refine calls Try.func90 rfl (n := 27) rfl (by simp) ?_
  refine TC.seq ?_
  refine TC.region ?_
  refine TL.box rfl rfl (by decide) (fun b0 hb0 => ?_)
  refine TL.alloc Tb.zero_99 rfl (by decide) (fun b1 hb1 => ?_)
  refine TL.nil ?_
  refine TQ.thenC ?_
  refine TC.seqK [2] (X := Nat × Nat × Nat) (fun z => True) (fun z => [(3, .pointer (some ⟨z.2.2, 0, none⟩))]) (fun z => [((z).2.2, Obj.cells #[.slice (some ⟨(z).1, 0, none⟩) t.s.length t.s.length, .slice (some ⟨(z).2.1, 0, none⟩) t.d.length t.d.length] 99 (0, 0)), ((z).1, Obj.cells (recA (List.replicate t.s.length [Value.int .i64 0, Value.int .i64 0])) 110 (0, 0)), ((z).2.1, Obj.cells (recA (List.replicate t.d.length [Value.int .i64 0, Value.int .i64 0])) 110 (0, 0)), (b1, Obj.cells #[.slice none 0 0, .slice none 0 0] 99 (0, 0)), (b0, Obj.cells #[.slice p1 t.s.length c1, .slice p2 t.d.length c2, .slice p3 t.c.length c3] 25 (0, 0))]) ?_ ?_
  · skip
    refine TC.mixV [true, true, true, false, true, true, true, false, true, false, false] [(b0, Obj.cells #[.slice p1 t.s.length c1, .slice p2 t.d.length c2, .slice p3 t.c.length c3] 25 (0, 0))] 11 Tb.mixed rfl (by kernel_rfl) (by kernel_rfl) (by kernel_rfl) (by kernel_rfl) (by repeat (first | exact List.Sublist.slnil | exact List.nil_sublist _ | exact List.Sublist.refl _ | refine List.Sublist.cons_cons _ ?_ | refine List.Sublist.cons _ ?_ | refine List.Sublist.trans ?_ (List.sublist_append_right _ _))) ?_
    refine TV.virt 0 rfl rfl (by decide) rfl (by kernel_rfl) (SOK.pure (PV.fieldAddr rfl Tb.fo_25_0) rfl) ?_
    refine TV.virt 1 rfl rfl (by decide) rfl (by kernel_rfl) (SOK.pure (PV.load rfl Tb.one_22 (by repeat (first | exact List.Mem.head _ | refine List.Mem.tail _ ?_ | refine List.mem_append_right _ ?_)) rfl) rfl) ?_
    refine TV.virt 2 rfl rfl (by decide) rfl (by kernel_rfl) (SOK.pure (PV.len rfl Tb.sl_22) rfl) ?_
    refine TV.virt 4 rfl rfl (by decide) rfl (by kernel_rfl) (SOK.pure (PV.fieldAddr rfl Tb.fo_25_1) rfl) ?_
    refine TV.virt 5 rfl rfl (by decide) rfl (by kernel_rfl) (SOK.pure (PV.load rfl Tb.one_22 (by repeat (first | exact List.Mem.head _ | refine List.Mem.tail _ ?_ | refine List.mem_append_right _ ?_)) rfl) rfl) ?_
    refine TV.virt 6 rfl rfl (by decide) rfl (by kernel_rfl) (SOK.pure (PV.len rfl Tb.sl_22) rfl) ?_
    refine TV.step [3, 7, 9] (by kernel_rfl) (by decide) rfl ⟨⟨_, rfl, ?_⟩, ⟨_, rfl, ?_⟩, ⟨_, rfl, ?_⟩, trivial⟩
    · skip
      refine TL.makeR (zs := [Value.int .i64 0, Value.int .i64 0]) (k := t.s.length) rfl rfl Tb.sl_97 Tb.zi_110 rfl (by simp) rfl (by omega) (by omega) rfl (by decide) (fun bS hbS => ?_)
      refine TL.nil ?_
      refine TV.next (.inl (by repeat (first | exact List.Sublist.slnil | exact List.nil_sublist _ | exact List.Sublist.refl _ | refine List.Sublist.cons_cons _ ?_ | refine List.Sublist.cons _ ?_ | refine List.Sublist.trans ?_ (List.sublist_append_right _ _)))) ?_
      refine TV.step [7, 9] (by kernel_rfl) (by decide) rfl ⟨⟨_, rfl, ?_⟩, ⟨_, rfl, ?_⟩, trivial⟩
      · skip
        refine TL.makeR (zs := [Value.int .i64 0, Value.int .i64 0]) (k := t.d.length) rfl rfl Tb.sl_97 Tb.zi_110 rfl (by simp) rfl (by omega) (by omega) rfl (by decide) (fun bB hbB => ?_)
        refine TL.nil ?_
        refine TV.next (.inl (by repeat (first | exact List.Sublist.slnil | exact List.nil_sublist _ | exact List.Sublist.refl _ | refine List.Sublist.cons_cons _ ?_ | refine List.Sublist.cons _ ?_ | refine List.Sublist.trans ?_ (List.sublist_append_right _ _)))) ?_
        refine TV.virt 8 rfl rfl (by decide) rfl (by kernel_rfl) (SOK.pure (PV.build rfl Tb.zero_99 Tb.pl_99 rfl) rfl) ?_
        refine TV.step [9] (by kernel_rfl) (by decide) rfl ⟨⟨_, rfl, ?_⟩, trivial⟩
        refine TL.alloc Tb.zero_99 rfl (by decide) (fun bX hbX => ?_)
        refine TL.nil ?_
        refine TV.next (.inl (by repeat (first | exact List.Sublist.slnil | exact List.nil_sublist _ | exact List.Sublist.refl _ | refine List.Sublist.cons_cons _ ?_ | refine List.Sublist.cons _ ?_ | refine List.Sublist.trans ?_ (List.sublist_append_right _ _)))) ?_
        refine TV.step [10] (by kernel_rfl) (by decide) rfl ⟨⟨_, rfl, ?_⟩, trivial⟩
        refine TL.storeAgg (vs := [.slice (some ⟨bS, 0, none⟩) t.s.length t.s.length, .slice (some ⟨bB, 0, none⟩) t.d.length t.d.length]) rfl rfl Tb.cells_99 (by repeat (first | exact Upd.head _ | apply Upd.tail | apply Upd.appR)) rfl rfl rfl rfl rfl ?_
        refine TL.nil ?_
        refine TV.next (.inr (by kernel_rfl)) ?_
        refine TV.done (by kernel_rfl) ?_
        refine TQ.thenN ?_
        refine TQ.perm (G' := [(((bS, bB, bX)).2.2, Obj.cells #[.slice (some ⟨((bS, bB, bX)).1, 0, none⟩) t.s.length t.s.length, .slice (some ⟨((bS, bB, bX)).2.1, 0, none⟩) t.d.length t.d.length] 99 (0, 0)), (((bS, bB, bX)).1, Obj.cells (recA (List.replicate t.s.length [Value.int .i64 0, Value.int .i64 0])) 110 (0, 0)), (((bS, bB, bX)).2.1, Obj.cells (recA (List.replicate t.d.length [Value.int .i64 0, Value.int .i64 0])) 110 (0, 0)), (b1, Obj.cells #[.slice none 0 0, .slice none 0 0] 99 (0, 0)), (b0, Obj.cells #[.slice p1 t.s.length c1, .slice p2 t.d.length c2, .slice p3 t.c.length c3] 25 (0, 0))]) (perm_of fun c9 => by simp only [List.map_append, List.sum_append, List.map_cons, List.sum_cons, List.map_nil, List.sum_nil, Value.cells]; try omega) ?_
        refine TQ.midK (bS, bB, bX) (by repeat (first | exact True.intro | refine And.intro rfl ?_)) (by repeat (first | exact True.intro | refine And.intro rfl ?_)) (by repeat (first | exact List.Sublist.slnil | exact List.nil_sublist _ | exact List.Sublist.refl _ | refine List.Sublist.cons_cons _ ?_ | refine List.Sublist.cons _ ?_ | refine List.Sublist.trans ?_ (List.sublist_append_right _ _))) trivial
      · skip
        refine TL.alloc Tb.zero_99 rfl (by decide) (fun bX hbX => ?_)
        refine TL.nil ?_
        refine TV.next (.inl (by repeat (first | exact List.Sublist.slnil | exact List.nil_sublist _ | exact List.Sublist.refl _ | refine List.Sublist.cons_cons _ ?_ | refine List.Sublist.cons _ ?_ | refine List.Sublist.trans ?_ (List.sublist_append_right _ _)))) ?_
        refine TV.step [7] (by kernel_rfl) (by decide) rfl ⟨⟨_, rfl, ?_⟩, trivial⟩
        refine TL.makeR (zs := [Value.int .i64 0, Value.int .i64 0]) (k := t.d.length) rfl rfl Tb.sl_97 Tb.zi_110 rfl (by simp) rfl (by omega) (by omega) rfl (by decide) (fun bB hbB => ?_)
        refine TL.nil ?_
        refine TV.next (.inl (by repeat (first | exact List.Sublist.slnil | exact List.nil_sublist _ | exact List.Sublist.refl _ | refine List.Sublist.cons_cons _ ?_ | refine List.Sublist.cons _ ?_ | refine List.Sublist.trans ?_ (List.sublist_append_right _ _)))) ?_
        refine TV.virt 8 rfl rfl (by decide) rfl (by kernel_rfl) (SOK.pure (PV.build rfl Tb.zero_99 Tb.pl_99 rfl) rfl) ?_
        refine TV.step [10] (by kernel_rfl) (by decide) rfl ⟨⟨_, rfl, ?_⟩, trivial⟩
        refine TL.storeAgg (vs := [.slice (some ⟨bS, 0, none⟩) t.s.length t.s.length, .slice (some ⟨bB, 0, none⟩) t.d.length t.d.length]) rfl rfl Tb.cells_99 (by repeat (first | exact Upd.head _ | apply Upd.tail | apply Upd.appR)) rfl rfl rfl rfl rfl ?_
        refine TL.nil ?_
        refine TV.next (.inr (by kernel_rfl)) ?_
        refine TV.done (by kernel_rfl) ?_
        refine TQ.thenN ?_
        refine TQ.perm (G' := [(((bS, bB, bX)).2.2, Obj.cells #[.slice (some ⟨((bS, bB, bX)).1, 0, none⟩) t.s.length t.s.length, .slice (some ⟨((bS, bB, bX)).2.1, 0, none⟩) t.d.length t.d.length] 99 (0, 0)), (((bS, bB, bX)).1, Obj.cells (recA (List.replicate t.s.length [Value.int .i64 0, Value.int .i64 0])) 110 (0, 0)), (((bS, bB, bX)).2.1, Obj.cells (recA (List.replicate t.d.length [Value.int .i64 0, Value.int .i64 0])) 110 (0, 0)), (b1, Obj.cells #[.slice none 0 0, .slice none 0 0] 99 (0, 0)), (b0, Obj.cells #[.slice p1 t.s.length c1, .slice p2 t.d.length c2, .slice p3 t.c.length c3] 25 (0, 0))]) (perm_of fun c9 => by simp only [List.map_append, List.sum_append, List.map_cons, List.sum_cons, List.map_nil, List.sum_nil, Value.cells]; try omega) ?_
        refine TQ.midK (bS, bB, bX) (by repeat (first | exact True.intro | refine And.intro rfl ?_)) (by repeat (first | exact True.intro | refine And.intro rfl ?_)) (by repeat (first | exact List.Sublist.slnil | exact List.nil_sublist _ | exact List.Sublist.refl _ | refine List.Sublist.cons_cons _ ?_ | refine List.Sublist.cons _ ?_ | refine List.Sublist.trans ?_ (List.sublist_append_right _ _))) trivial
    · skip
      refine TL.makeR (zs := [Value.int .i64 0, Value.int .i64 0]) (k := t.d.length) rfl rfl Tb.sl_97 Tb.zi_110 rfl (by simp) rfl (by omega) (by omega) rfl (by decide) (fun bB hbB => ?_)
      refine TL.nil ?_
      refine TV.next (.inl (by repeat (first | exact List.Sublist.slnil | exact List.nil_sublist _ | exact List.Sublist.refl _ | refine List.Sublist.cons_cons _ ?_ | refine List.Sublist.cons _ ?_ | refine List.Sublist.trans ?_ (List.sublist_append_right _ _)))) ?_
      refine TV.step [3, 9] (by kernel_rfl) (by decide) rfl ⟨⟨_, rfl, ?_⟩, ⟨_, rfl, ?_⟩, trivial⟩
      · skip
        refine TL.makeR (zs := [Value.int .i64 0, Value.int .i64 0]) (k := t.s.length) rfl rfl Tb.sl_97 Tb.zi_110 rfl (by simp) rfl (by omega) (by omega) rfl (by decide) (fun bS hbS => ?_)
        refine TL.nil ?_
        refine TV.next (.inl (by repeat (first | exact List.Sublist.slnil | exact List.nil_sublist _ | exact List.Sublist.refl _ | refine List.Sublist.cons_cons _ ?_ | refine List.Sublist.cons _ ?_ | refine List.Sublist.trans ?_ (List.sublist_append_right _ _)))) ?_
        refine TV.virt 8 rfl rfl (by decide) rfl (by kernel_rfl) (SOK.pure (PV.build rfl Tb.zero_99 Tb.pl_99 rfl) rfl) ?_
        refine TV.step [9] (by kernel_rfl) (by decide) rfl ⟨⟨_, rfl, ?_⟩, trivial⟩
        refine TL.alloc Tb.zero_99 rfl (by decide) (fun bX hbX => ?_)
        refine TL.nil ?_
        refine TV.next (.inl (by repeat (first | exact List.Sublist.slnil | exact List.nil_sublist _ | exact List.Sublist.refl _ | refine List.Sublist.cons_cons _ ?_ | refine List.Sublist.cons _ ?_ | refine List.Sublist.trans ?_ (List.sublist_append_right _ _)))) ?_
        refine TV.step [10] (by kernel_rfl) (by decide) rfl ⟨⟨_, rfl, ?_⟩, trivial⟩
        refine TL.storeAgg (vs := [.slice (some ⟨bS, 0, none⟩) t.s.length t.s.length, .slice (some ⟨bB, 0, none⟩) t.d.length t.d.length]) rfl rfl Tb.cells_99 (by repeat (first | exact Upd.head _ | apply Upd.tail | apply Upd.appR)) rfl rfl rfl rfl rfl ?_
        refine TL.nil ?_
        refine TV.next (.inr (by kernel_rfl)) ?_
        refine TV.done (by kernel_rfl) ?_
        refine TQ.thenN ?_
        refine TQ.perm (G' := [(((bS, bB, bX)).2.2, Obj.cells #[.slice (some ⟨((bS, bB, bX)).1, 0, none⟩) t.s.length t.s.length, .slice (some ⟨((bS, bB, bX)).2.1, 0, none⟩) t.d.length t.d.length] 99 (0, 0)), (((bS, bB, bX)).1, Obj.cells (recA (List.replicate t.s.length [Value.int .i64 0, Value.int .i64 0])) 110 (0, 0)), (((bS, bB, bX)).2.1, Obj.cells (recA (List.replicate t.d.length [Value.int .i64 0, Value.int .i64 0])) 110 (0, 0)), (b1, Obj.cells #[.slice none 0 0, .slice none 0 0] 99 (0, 0)), (b0, Obj.cells #[.slice p1 t.s.length c1, .slice p2 t.d.length c2, .slice p3 t.c.length c3] 25 (0, 0))]) (perm_of fun c9 => by simp only [List.map_append, List.sum_append, List.map_cons, List.sum_cons, List.map_nil, List.sum_nil, Value.cells]; try omega) ?_
        refine TQ.midK (bS, bB, bX) (by repeat (first | exact True.intro | refine And.intro rfl ?_)) (by repeat (first | exact True.intro | refine And.intro rfl ?_)) (by repeat (first | exact List.Sublist.slnil | exact List.nil_sublist _ | exact List.Sublist.refl _ | refine List.Sublist.cons_cons _ ?_ | refine List.Sublist.cons _ ?_ | refine List.Sublist.trans ?_ (List.sublist_append_right _ _))) trivial
      · skip
        refine TL.alloc Tb.zero_99 rfl (by decide) (fun bX hbX => ?_)
        refine TL.nil ?_
        refine TV.next (.inl (by repeat (first | exact List.Sublist.slnil | exact List.nil_sublist _ | exact List.Sublist.refl _ | refine List.Sublist.cons_cons _ ?_ | refine List.Sublist.cons _ ?_ | refine List.Sublist.trans ?_ (List.sublist_append_right _ _)))) ?_
        refine TV.step [3] (by kernel_rfl) (by decide) rfl ⟨⟨_, rfl, ?_⟩, trivial⟩
        refine TL.makeR (zs := [Value.int .i64 0, Value.int .i64 0]) (k := t.s.length) rfl rfl Tb.sl_97 Tb.zi_110 rfl (by simp) rfl (by omega) (by omega) rfl (by decide) (fun bS hbS => ?_)
        refine TL.nil ?_
        refine TV.next (.inl (by repeat (first | exact List.Sublist.slnil | exact List.nil_sublist _ | exact List.Sublist.refl _ | refine List.Sublist.cons_cons _ ?_ | refine List.Sublist.cons _ ?_ | refine List.Sublist.trans ?_ (List.sublist_append_right _ _)))) ?_
        refine TV.virt 8 rfl rfl (by decide) rfl (by kernel_rfl) (SOK.pure (PV.build rfl Tb.zero_99 Tb.pl_99 rfl) rfl) ?_
        refine TV.step [10] (by kernel_rfl) (by decide) rfl ⟨⟨_, rfl, ?_⟩, trivial⟩
        refine TL.storeAgg (vs := [.slice (some ⟨bS, 0, none⟩) t.s.length t.s.length, .slice (some ⟨bB, 0, none⟩) t.d.length t.d.length]) rfl rfl Tb.cells_99 (by repeat (first | exact Upd.head _ | apply Upd.tail | apply Upd.appR)) rfl rfl rfl rfl rfl ?_
        refine TL.nil ?_
        refine TV.next (.inr (by kernel_rfl)) ?_
        refine TV.done (by kernel_rfl) ?_
        refine TQ.thenN ?_
        refine TQ.perm (G' := [(((bS, bB, bX)).2.2, Obj.cells #[.slice (some ⟨((bS, bB, bX)).1, 0, none⟩) t.s.length t.s.length, .slice (some ⟨((bS, bB, bX)).2.1, 0, none⟩) t.d.length t.d.length] 99 (0, 0)), (((bS, bB, bX)).1, Obj.cells (recA (List.replicate t.s.length [Value.int .i64 0, Value.int .i64 0])) 110 (0, 0)), (((bS, bB, bX)).2.1, Obj.cells (recA (List.replicate t.d.length [Value.int .i64 0, Value.int .i64 0])) 110 (0, 0)), (b1, Obj.cells #[.slice none 0 0, .slice none 0 0] 99 (0, 0)), (b0, Obj.cells #[.slice p1 t.s.length c1, .slice p2 t.d.length c2, .slice p3 t.c.length c3] 25 (0, 0))]) (perm_of fun c9 => by simp only [List.map_append, List.sum_append, List.map_cons, List.sum_cons, List.map_nil, List.sum_nil, Value.cells]; try omega) ?_
        refine TQ.midK (bS, bB, bX) (by repeat (first | exact True.intro | refine And.intro rfl ?_)) (by repeat (first | exact True.intro | refine And.intro rfl ?_)) (by repeat (first | exact List.Sublist.slnil | exact List.nil_sublist _ | exact List.Sublist.refl _ | refine List.Sublist.cons_cons _ ?_ | refine List.Sublist.cons _ ?_ | refine List.Sublist.trans ?_ (List.sublist_append_right _ _))) trivial
    · skip
      refine TL.alloc Tb.zero_99 rfl (by decide) (fun bX hbX => ?_)
      refine TL.nil ?_
      refine TV.next (.inl (by repeat (first | exact List.Sublist.slnil | exact List.nil_sublist _ | exact List.Sublist.refl _ | refine List.Sublist.cons_cons _ ?_ | refine List.Sublist.cons _ ?_ | refine List.Sublist.trans ?_ (List.sublist_append_right _ _)))) ?_
      refine TV.step [3, 7] (by kernel_rfl) (by decide) rfl ⟨⟨_, rfl, ?_⟩, ⟨_, rfl, ?_⟩, trivial⟩
      · skip
        refine TL.makeR (zs := [Value.int .i64 0, Value.int .i64 0]) (k := t.s.length) rfl rfl Tb.sl_97 Tb.zi_110 rfl (by simp) rfl (by omega) (by omega) rfl (by decide) (fun bS hbS => ?_)
        refine TL.nil ?_
        refine TV.next (.inl (by repeat (first | exact List.Sublist.slnil | exact List.nil_sublist _ | exact List.Sublist.refl _ | refine List.Sublist.cons_cons _ ?_ | refine List.Sublist.cons _ ?_ | refine List.Sublist.trans ?_ (List.sublist_append_right _ _)))) ?_
        refine TV.step [7] (by kernel_rfl) (by decide) rfl ⟨⟨_, rfl, ?_⟩, trivial⟩
        refine TL.makeR (zs := [Value.int .i64 0, Value.int .i64 0]) (k := t.d.length) rfl rfl Tb.sl_97 Tb.zi_110 rfl (by simp) rfl (by omega) (by omega) rfl (by decide) (fun bB hbB => ?_)
        refine TL.nil ?_
        refine TV.next (.inl (by repeat (first | exact List.Sublist.slnil | exact List.nil_sublist _ | exact List.Sublist.refl _ | refine List.Sublist.cons_cons _ ?_ | refine List.Sublist.cons _ ?_ | refine List.Sublist.trans ?_ (List.sublist_append_right _ _)))) ?_
        refine TV.virt 8 rfl rfl (by decide) rfl (by kernel_rfl) (SOK.pure (PV.build rfl Tb.zero_99 Tb.pl_99 rfl) rfl) ?_
        refine TV.step [10] (by kernel_rfl) (by decide) rfl ⟨⟨_, rfl, ?_⟩, trivial⟩
        refine TL.storeAgg (vs := [.slice (some ⟨bS, 0, none⟩) t.s.length t.s.length, .slice (some ⟨bB, 0, none⟩) t.d.length t.d.length]) rfl rfl Tb.cells_99 (by repeat (first | exact Upd.head _ | apply Upd.tail | apply Upd.appR)) rfl rfl rfl rfl rfl ?_
        refine TL.nil ?_
        refine TV.next (.inr (by kernel_rfl)) ?_
        refine TV.done (by kernel_rfl) ?_
        refine TQ.thenN ?_
        refine TQ.perm (G' := [(((bS, bB, bX)).2.2, Obj.cells #[.slice (some ⟨((bS, bB, bX)).1, 0, none⟩) t.s.length t.s.length, .slice (some ⟨((bS, bB, bX)).2.1, 0, none⟩) t.d.length t.d.length] 99 (0, 0)), (((bS, bB, bX)).1, Obj.cells (recA (List.replicate t.s.length [Value.int .i64 0, Value.int .i64 0])) 110 (0, 0)), (((bS, bB, bX)).2.1, Obj.cells (recA (List.replicate t.d.length [Value.int .i64 0, Value.int .i64 0])) 110 (0, 0)), (b1, Obj.cells #[.slice none 0 0, .slice none 0 0] 99 (0, 0)), (b0, Obj.cells #[.slice p1 t.s.length c1, .slice p2 t.d.length c2, .slice p3 t.c.length c3] 25 (0, 0))]) (perm_of fun c9 => by simp only [List.map_append, List.sum_append, List.map_cons, List.sum_cons, List.map_nil, List.sum_nil, Value.cells]; try omega) ?_
        refine TQ.midK (bS, bB, bX) (by repeat (first | exact True.intro | refine And.intro rfl ?_)) (by repeat (first | exact True.intro | refine And.intro rfl ?_)) (by repeat (first | exact List.Sublist.slnil | exact List.nil_sublist _ | exact List.Sublist.refl _ | refine List.Sublist.cons_cons _ ?_ | refine List.Sublist.cons _ ?_ | refine List.Sublist.trans ?_ (List.sublist_append_right _ _))) trivial
      · skip
        refine TL.makeR (zs := [Value.int .i64 0, Value.int .i64 0]) (k := t.d.length) rfl rfl Tb.sl_97 Tb.zi_110 rfl (by simp) rfl (by omega) (by omega) rfl (by decide) (fun bB hbB => ?_)
        refine TL.nil ?_
        refine TV.next (.inl (by repeat (first | exact List.Sublist.slnil | exact List.nil_sublist _ | exact List.Sublist.refl _ | refine List.Sublist.cons_cons _ ?_ | refine List.Sublist.cons _ ?_ | refine List.Sublist.trans ?_ (List.sublist_append_right _ _)))) ?_
        refine TV.step [3] (by kernel_rfl) (by decide) rfl ⟨⟨_, rfl, ?_⟩, trivial⟩
        refine TL.makeR (zs := [Value.int .i64 0, Value.int .i64 0]) (k := t.s.length) rfl rfl Tb.sl_97 Tb.zi_110 rfl (by simp) rfl (by omega) (by omega) rfl (by decide) (fun bS hbS => ?_)
        refine TL.nil ?_
        refine TV.next (.inl (by repeat (first | exact List.Sublist.slnil | exact List.nil_sublist _ | exact List.Sublist.refl _ | refine List.Sublist.cons_cons _ ?_ | refine List.Sublist.cons _ ?_ | refine List.Sublist.trans ?_ (List.sublist_append_right _ _)))) ?_
        refine TV.virt 8 rfl rfl (by decide) rfl (by kernel_rfl) (SOK.pure (PV.build rfl Tb.zero_99 Tb.pl_99 rfl) rfl) ?_
        refine TV.step [10] (by kernel_rfl) (by decide) rfl ⟨⟨_, rfl, ?_⟩, trivial⟩
        refine TL.storeAgg (vs := [.slice (some ⟨bS, 0, none⟩) t.s.length t.s.length, .slice (some ⟨bB, 0, none⟩) t.d.length t.d.length]) rfl rfl Tb.cells_99 (by repeat (first | exact Upd.head _ | apply Upd.tail | apply Upd.appR)) rfl rfl rfl rfl rfl ?_
        refine TL.nil ?_
        refine TV.next (.inr (by kernel_rfl)) ?_
        refine TV.done (by kernel_rfl) ?_
        refine TQ.thenN ?_
        refine TQ.perm (G' := [(((bS, bB, bX)).2.2, Obj.cells #[.slice (some ⟨((bS, bB, bX)).1, 0, none⟩) t.s.length t.s.length, .slice (some ⟨((bS, bB, bX)).2.1, 0, none⟩) t.d.length t.d.length] 99 (0, 0)), (((bS, bB, bX)).1, Obj.cells (recA (List.replicate t.s.length [Value.int .i64 0, Value.int .i64 0])) 110 (0, 0)), (((bS, bB, bX)).2.1, Obj.cells (recA (List.replicate t.d.length [Value.int .i64 0, Value.int .i64 0])) 110 (0, 0)), (b1, Obj.cells #[.slice none 0 0, .slice none 0 0] 99 (0, 0)), (b0, Obj.cells #[.slice p1 t.s.length c1, .slice p2 t.d.length c2, .slice p3 t.c.length c3] 25 (0, 0))]) (perm_of fun c9 => by simp only [List.map_append, List.sum_append, List.map_cons, List.sum_cons, List.map_nil, List.sum_nil, Value.cells]; try omega) ?_
        refine TQ.midK (bS, bB, bX) (by repeat (first | exact True.intro | refine And.intro rfl ?_)) (by repeat (first | exact True.intro | refine And.intro rfl ?_)) (by repeat (first | exact List.Sublist.slnil | exact List.nil_sublist _ | exact List.Sublist.refl _ | refine List.Sublist.cons_cons _ ?_ | refine List.Sublist.cons _ ?_ | refine List.Sublist.trans ?_ (List.sublist_append_right _ _))) trivial
  · skip
    intro z hz9
    refine TC.lit [(2, _), (3, _)] (by repeat (first | exact True.intro | refine And.intro rfl ?_)) ?_
    refine TC.seq ?_
    refine TC.seq ?_
    refine TC.region ?_
    refine TL.pure (PV.fieldAddr rfl Tb.fo_99_1) rfl (by decide) ?_
    refine TL.pure (PV.load rfl Tb.one_97 (by repeat (first | exact List.Mem.head _ | refine List.Mem.tail _ ?_ | refine List.mem_append_right _ ?_)) rfl) rfl (by decide) ?_
    refine TL.pure (PV.len rfl Tb.sl_97) rfl (by decide) ?_
    refine TL.pure (PV.move rfl) rfl (by decide) ?_
    refine TL.nil ?_
    refine TQ.thenC ?_
    refine TC.block ?_
    refine TC.lit [(2, _), (3, _), (16, _), (17, _)] (by repeat (first | exact True.intro | refine And.intro rfl ?_)) ?_
    have hks : Hk labR (some (z.1, t.s.length, [])) t.s.length := lab_go0 _ _
    have hkb : Hk labR (some (z.2.1, t.d.length, [])) t.d.length := lab_go0 _ _
    refine TC.congrG (G' := ((z).2.2, Obj.cells #[.slice (some ⟨(z).1, 0, none⟩) t.s.length t.s.length, .slice (some ⟨(z).2.1, 0, none⟩) t.d.length t.d.length] 99 (0, 0)) :: (gbR labR 110 (some (z.1, t.s.length, [])) (sL t.s.length s0) ++ (gbR labR 110 (some (z.2.1, t.d.length, [])) (mkL t.d.length (fil 0)) ++ [(b1, Obj.cells #[.slice none 0 0, .slice none 0 0] 99 (0, 0)), (b0, Obj.cells #[.slice p1 t.s.length c1, .slice p2 t.d.length c2, .slice p3 t.c.length c3] 25 (0, 0))]))) (by rw [lab_mk]; show _ :: (gbR labR 110 _ _ ++ (_ :: _)) = _; rw [lab_mk, fil_0, mkL_rep]; rfl) ?_
    refine TC.loopK [2, 3, 16] (X := Nat) (fun j => j ≤ t.d.length) (fun j => [(17, .int .i64 j)]) (fun j => ((z).2.2, Obj.cells #[.slice (some ⟨(z).1, 0, none⟩) t.s.length t.s.length, .slice (some ⟨(z).2.1, 0, none⟩) t.d.length t.d.length] 99 (0, 0)) :: (gbR labR 110 (some (z.1, t.s.length, [])) (sL t.s.length s0) ++ (gbR labR 110 (some (z.2.1, t.d.length, [])) (mkL t.d.length (fil j)) ++ [(b1, Obj.cells #[.slice none 0 0, .slice none 0 0] 99 (0, 0)), (b0, Obj.cells #[.slice p1 t.s.length c1, .slice p2 t.d.length c2, .slice p3 t.c.length c3] 25 (0, 0))]))) (fun j => t.d.length - j) 0 (Nat.zero_le _) (by repeat (first | exact True.intro | refine And.intro rfl ?_)) (List.Sublist.refl _) ?_
    intro j hj9
    refine TC.lit [(2, _), (3, _), (16, _), (17, _)] (by repeat (first | exact True.intro | refine And.intro rfl ?_)) ?_
    refine TC.seq ?_
    refine TC.region ?_
    refine TL.pure (PV.lss rfl rfl) rfl (by decide) ?_
    refine TL.nil ?_
    refine TQ.thenC ?_
    refine TC.seq ?_
    first | refine TC.condD rfl (fun hlt => ?_) (fun hlt => ?_) | refine TC.cond rfl (fun hlt => ?_) (fun hlt => ?_)
    · skip
      refine TC.skip ?_
      refine TQ.thenC ?_
      refine TC.seq ?_
      refine TC.block ?_
      refine TC.seq ?_
      refine TC.region ?_
      refine TL.pure (PV.move rfl) rfl (by decide) ?_
      refine TL.pure (PV.assign rfl) rfl (by decide) ?_
      refine TL.nil ?_
      refine TQ.thenC ?_
      refine TC.region ?_
      refine TL.pure (PV.fieldAddr rfl Tb.fo_99_1) rfl (by decide) ?_
      refine TL.pure (PV.load rfl Tb.one_97 (by repeat (first | exact List.Mem.head _ | refine List.Mem.tail _ ?_ | refine List.mem_append_right _ ?_)) rfl) rfl (by decide) ?_
      refine TL.pure (PV.move rfl) rfl (by decide) ?_
      refine TL.pure (PV.indexG (h := (some (z.2.1, t.d.length, []))) (len := t.d.length) (ys := rcs labR (mkL t.d.length (fil j))) (j := j) rfl rfl (hkb.g (mkL_len _ _)) Tb.elm_97 rfl (by omega)) rfl (by decide) ?_
      refine TL.pure (PV.fieldAddr rfl Tb.fo_110_0) rfl (by decide) ?_
      refine TL.putCell (R := labR) (h := (some (z.2.1, t.d.length, []))) (l0 := mkL t.d.length (fil j)) (j := j) (f := 0) (v := .int .i64 100) (r := ⟨100, 0⟩) (e := 110) rfl rfl Tb.cells_3 rfl (hkb _ (mkL_len _ _)) (by rw [mkL_at _ (by omega)]; unfold fil; rw [if_neg (Nat.lt_irrefl _)]; rfl) (by repeat (first | exact PutH.here _ _ _ _ | apply PutH.tail | apply PutH.app)) (by rw [mkL_len]; omega) (by decide) rfl rfl ?_
      rw [fil_set (show j < t.d.length by omega)]
      refine TL.nil ?_
      refine TQ.blkN ?_
      refine TQ.thenC ?_
      refine TC.region ?_
      refine TL.pure (PV.add rfl rfl (by omega)) rfl (by decide) ?_
      refine TL.pure (PV.move rfl) rfl (by decide) ?_
      refine TL.nil ?_
      refine TQ.thenN ?_
      refine TQ.backK (j + 1) (by repeat (first | exact True.intro | refine And.intro rfl ?_)) (by repeat (first | exact True.intro | refine And.intro rfl ?_)) (List.Sublist.refl _) (by omega) (by omega)
    · skip
      refine TC.exit ?_
      refine TQ.thenE ?_
      refine TQ.thenE ?_
      refine TQ.blkS ?_
      refine TQ.thenC ?_
      refine TC.seq ?_
      have hje : t.d.length ≤ j := by omega
      rw [fil_all hje]
      refine TC.region ?_
      refine TL.pure (PV.loadBox rfl Tb.agg_99 (by repeat (first | exact List.Mem.head _ | refine List.Mem.tail _ ?_ | refine List.mem_append_right _ ?_)) rfl) rfl (by decide) ?_
      refine TL.storeAgg rfl rfl Tb.cells_99 (by repeat (first | exact Upd.head _ | apply Upd.tail | apply Upd.appR)) rfl rfl rfl rfl rfl ?_
      refine TL.nil ?_
      refine TQ.thenC ?_
      refine TC.ret ?_
      refine TQ.retR rfl (Res.agg rfl Tb.agg_99 (by repeat (first | exact List.Mem.head _ | refine List.Mem.tail _ ?_ | refine List.mem_append_right _ ?_)) rfl Res.nil) ?_
      simp only [tup]
      exact ⟨((some (z.1, t.s.length, [])), (some (z.2.1, t.d.length, []))), rfl, ⟨hks, hkb⟩, by repeat (first | exact List.nil_sublist _ | refine List.Sublist.cons_cons _ ?_ | refine List.Sublist.cons _ ?_)⟩

end Go.Proofs.Ytghlkndanpegbaa
