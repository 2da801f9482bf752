/- How many fillings can be reached: contracts. -/
import Derived.Test.YtkkipbkkijoneaaDw
import Derived.Test.YtkkipbkkijoneaaMb
set_option linter.unusedVariables false
set_option linter.unusedSimpArgs false
namespace Go.Proofs.Ytkkipbkkijoneaa
open Go.Sx Go.RowKit Go.Sand

/-- Fillings one behind the other. -/
def fiR : Rec (List Int) where
  cells r := ((pad6 r).take 6).map (Value.int .i64)
  sz := 6
  len := fun r => by
    unfold pad6
    rw [List.length_map, List.length_take, List.length_append, List.length_replicate]
    omega
  one := fun r v hv => by
    obtain ⟨i, _, rfl⟩ := List.mem_map.1 hv
    rfl
  pos := by decide
theorem fi_cells {m : List Int} (h : m.length ≤ 6) : fiR.cells m = (pad6 m).map (Value.int .i64) := by
  show ((pad6 m).take 6).map _ = _
  rw [List.take_of_length_le (by rw [pad_len h]; exact Nat.le_refl _)]
theorem fi_val {m : List Int} (h : m.length ≤ 6) : rval fiR m = .agg (intsA (pad6 m)) := by
  show Value.agg (fiR.cells m).toArray = _
  rw [fi_cells h]
  rfl
theorem gb1 {m : List Int} (h : m.length ≤ 6) (b : Nat) : gbR fiR 70 (some (b, 1, [])) [m] = [(b, Obj.cells (intsA (pad6 m)) 70 (0, 0))] := by
  show [(b, Obj.cells (rcs fiR [m] ++ []).toArray 70 (0, 0))] = _
  rw [rcs, List.flatMap_cons, List.flatMap_nil, List.append_nil, List.append_nil, fi_cells h]
  rfl
theorem go1 {α : Type} {R : Rec α} (r : α) (b : Nat) : goR R (some (b, 1, [])) [r] := by
  refine ⟨rcs_len _, ?_⟩
  simp [rcs_len]
theorem fill_f {l : List Int} (h : l.length = 6) : Instr.fill (fun i => some (i * 6, 6)) ((Array.range (1 * 6)).map ((Value.agg #[(.int .i64 0), (.int .i64 0), (.int .i64 0), (.int .i64 0), (.int .i64 0), (.int .i64 0)]).cells[· % (Value.agg #[(.int .i64 0), (.int .i64 0), (.int .i64 0), (.int .i64 0), (.int .i64 0), (.int .i64 0)]).cells.size]!)) [(0, .agg (intsA l))] = some (intsA l) := by
  obtain ⟨a, b, c, d, e, f, rfl⟩ : ∃ a b c d e f, l = [a, b, c, d, e, f] := by
    match l, h with
    | [a, b, c, d, e, f], _ => exact ⟨a, b, c, d, e, f, rfl⟩
  kernel_rfl
theorem ut_95 : Try.prog.underlying 95 = some (.map 70 4) := by kernel_rfl
theorem zo_4 : zeroOf Try.prog 4 = some (.bool false) := by kernel_rfl
abbrev Two := List (List Int) × List (List Int)
/-- What one step from a filling adds to what is found, and to what is new. -/
def rS (ss : List St) (m : List Int) (k : Nat) (st : Two) : Two :=
  match nxW ss m k with
  | some m' => if m' ∈ st.1 then st else (st.1 ++ [m'], st.2 ++ [m'])
  | none => st
def rM (ss : List St) (m : List Int) : Nat → Two → Two
  | 0, st => st
  | k + 1, st => rS ss m k (rM ss m k st)
def rB (ss : List St) (B : List (List Int)) : Nat → List (List Int) → Two
  | 0, F => (F, [])
  | j + 1, F => rM ss (B.getD j []) ss.length (rB ss B j F)
def rR (ss : List St) (m : List Int) : Nat → Two
  | 0 => ([m], [m])
  | i + 1 => rB ss (rR ss m i).2 (rR ss m i).2.length (rR ss m i).1
def rchR (n : Int) (ss : List St) (m : List Int) (most : Int) : Int × Int :=
  if filI n ss [m] ≠ 0 then (0, filI n ss [m]) else if wiB most 0 5 = true then (((rR ss m most.toNat).1.length : Nat), 0) else (0, 1)
structure VS (n : Int) (ss : List St) (st : Two) : Prop where
  f : ∀ x ∈ st.1, VM n ss x
  b : ∀ x ∈ st.2, VM n ss x
theorem rM_new {ss : List St} {m : List Int} {k : Nat} {st : Two} (h : doI m (ss.getD k default) = 0) (h2 : doN m (ss.getD k default) ∉ (rM ss m k st).1) :
    rM ss m (k + 1) st = ((rM ss m k st).1 ++ [doN m (ss.getD k default)], (rM ss m k st).2 ++ [doN m (ss.getD k default)]) := by
  show rS ss m k _ = _
  unfold rS nxW
  rw [if_pos h]
  exact if_neg h2
theorem rM_old {ss : List St} {m : List Int} {k : Nat} {st : Two} (h2 : doN m (ss.getD k default) ∈ (rM ss m k st).1) : rM ss m (k + 1) st = rM ss m k st := by
  show rS ss m k _ = _
  unfold rS nxW
  by_cases h : doI m (ss.getD k default) = 0
  · rw [if_pos h]
    exact if_pos h2
  · rw [if_neg h]
theorem rM_no {ss : List St} {m : List Int} {k : Nat} {st : Two} (h : ¬ doI m (ss.getD k default) = 0) : rM ss m (k + 1) st = rM ss m k st := by
  show rS ss m k _ = _
  unfold rS nxW
  rw [if_neg h]
theorem rM_vs {n : Int} {ss : List St} {m : List Int} (hm : VM n ss m) {st : Two} (h : VS n ss st) : ∀ k, k ≤ ss.length → VS n ss (rM ss m k st)
  | 0, _ => h
  | k + 1, hk => by
    have ih := rM_vs hm h k (by omega)
    show VS n ss (rS ss m k _)
    unfold rS
    split
    · rename_i m' hm'
      split
      · exact ih
      · have hv := nxW_next hm (by omega) hm'
        refine ⟨fun x hx => ?_, fun x hx => ?_⟩
        · rcases List.mem_append.1 hx with hx | hx
          · exact ih.f x hx
          · rw [List.mem_singleton] at hx; subst hx; exact hv
        · rcases List.mem_append.1 hx with hx | hx
          · exact ih.b x hx
          · rw [List.mem_singleton] at hx; subst hx; exact hv
    · exact ih
theorem rM_len (ss : List St) (m : List Int) (st : Two) : ∀ k, (rM ss m k st).1.length ≤ st.1.length + k ∧ (rM ss m k st).2.length ≤ st.2.length + k
  | 0 => ⟨Nat.le_refl _, Nat.le_refl _⟩
  | k + 1 => by
    have ih := rM_len ss m st k
    have h1 : (rM ss m (k + 1) st).1.length ≤ (rM ss m k st).1.length + 1 ∧ (rM ss m (k + 1) st).2.length ≤ (rM ss m k st).2.length + 1 := by
      show (rS ss m k _).1.length ≤ _ ∧ (rS ss m k _).2.length ≤ _
      unfold rS
      split
      · split
        · exact ⟨by omega, by omega⟩
        · simp
      · exact ⟨by omega, by omega⟩
    omega
theorem getD_vm {n : Int} {ss : List St} {B : List (List Int)} (h : ∀ x ∈ B, VM n ss x) {j : Nat} (hj : j < B.length) : VM n ss (B.getD j []) := h _ (by simp [List.getD, hj])
theorem rB_vs {n : Int} {ss : List St} {B F : List (List Int)} (hB : ∀ x ∈ B, VM n ss x) (hF : ∀ x ∈ F, VM n ss x) : ∀ j, j ≤ B.length → VS n ss (rB ss B j F)
  | 0, _ => ⟨hF, fun x hx => by cases hx⟩
  | j + 1, hj => rM_vs (getD_vm hB (by omega)) (rB_vs hB hF j (by omega)) _ (Nat.le_refl _)
theorem rB_len {ss : List St} (h6 : ss.length ≤ 6) (B F : List (List Int)) : ∀ j, (rB ss B j F).1.length ≤ F.length + 6 * j ∧ (rB ss B j F).2.length ≤ 6 * j
  | 0 => ⟨Nat.le_refl _, Nat.le_refl _⟩
  | j + 1 => by
    have ih := rB_len h6 B F j
    have h := rM_len ss (B.getD j []) (rB ss B j F) ss.length
    show (rM ss (B.getD j []) ss.length (rB ss B j F)).1.length ≤ _ ∧ (rM ss (B.getD j []) ss.length (rB ss B j F)).2.length ≤ _
    omega
theorem rR_vs {n : Int} {ss : List St} {m : List Int} (h : VM n ss m) : ∀ i, VS n ss (rR ss m i)
  | 0 => ⟨fun x hx => by rw [show x = m from List.mem_singleton.1 hx]; exact h, fun x hx => by rw [show x = m from List.mem_singleton.1 hx]; exact h⟩
  | i + 1 => rB_vs (rR_vs h i).b (rR_vs h i).f _ (Nat.le_refl _)
theorem rR_len {ss : List St} (h6 : ss.length ≤ 6) (m : List Int) : ∀ i, (rR ss m i).1.length ≤ 2 * 6 ^ i ∧ (rR ss m i).2.length ≤ 6 ^ i
  | 0 => ⟨show 1 ≤ 2 * 6 ^ 0 by decide, show 1 ≤ 6 ^ 0 by decide⟩
  | i + 1 => by
    have ih := rR_len h6 m i
    have h := rB_len h6 (rR ss m i).2 (rR ss m i).1 (rR ss m i).2.length
    have e : 6 ^ (i + 1) = 6 ^ i * 6 := Nat.pow_succ ..
    show (rB ss (rR ss m i).2 (rR ss m i).2.length (rR ss m i).1).1.length ≤ _ ∧ (rB ss (rR ss m i).2 (rR ss m i).2.length (rR ss m i).1).2.length ≤ _
    omega
theorem rR_bd {ss : List St} (h6 : ss.length ≤ 6) (m : List Int) {i : Nat} (hi : i ≤ 5) : (rR ss m i).1.length ≤ 20000 ∧ (rR ss m i).2.length ≤ 8000 := by
  have h := rR_len h6 m i
  have h2 : 6 ^ i ≤ 6 ^ 5 := Nat.pow_le_pow_right (by decide) hi
  have e : 6 ^ 5 = 7776 := by decide
  omega
theorem pads_len {n : Int} {ss : List St} {F : List (List Int)} (h : ∀ x ∈ F, VM n ss x) : ∀ q ∈ F.map pad6, q.length = 6 := fun q hq => by
  obtain ⟨x, hx, rfl⟩ := List.mem_map.1 hq
  exact pad_len (h x hx).l6
theorem pad_mem {n : Int} {ss : List St} {F : List (List Int)} (h : ∀ x ∈ F, VM n ss x) {m : List Int} (hm : VM n ss m) : pad6 m ∈ F.map pad6 ↔ m ∈ F := by
  constructor
  · intro h1
    obtain ⟨x, hx, he⟩ := List.mem_map.1 h1
    have h2 := (h x hx).ml
    have h3 := hm.ml
    rw [← pad_inj (by omega) he]
    exact hx
  · exact fun h1 => List.mem_map.2 ⟨m, h1, rfl⟩
theorem map_snoc (F : List (List Int)) (m : List Int) : (F ++ [m]).map pad6 = F.map pad6 ++ [pad6 m] := by rw [List.map_append]; rfl
section
variable {n : Nat} {w0 : World} {E : Env} {G : Heap} {d : Option Nat} {ty : TypeId} {pos : String} {aft : Array Edge} {g : Option (Nat × Bool)}
theorem PV.loadFi {x : Operand} {h : HD} {l : List (List Int)} {j : Nat} (hx : evo E x = some (.pointer (some ⟨(h.map (·.1)).getD 0, j * 6, none⟩))) (hm : ∀ y ∈ gbR fiR 70 h l, y ∈ G) (hok : goR fiR h l) (hj : j < l.length) (h6 : (l.getD j []).length ≤ 6) :
    PV Try.prog n w0 E G ⟨d, .load 70 x, ty, pos, aft, g⟩ (.agg (intsA (pad6 (l.getD j [])))) := by
  have h1 := PV.loadRec (R := fiR) (d := d) (ty := ty) (pos := pos) (aft := aft) (g := g) (n := n) (w0 := w0) (j := j) (r := l.getD j []) (e := 70) hx Tb.agg_70 hm hok hj rfl
  rw [fi_val h6] at h1
  exact h1
end


set_option maxRecDepth 100000 in
set_option maxHeartbeats 4000000 in
theorem onward_ok {w0 w : World} {b : Nat} {F : List (List Int)} {R : Heap} (hn : New w0 w ((b, bobj (F.map pad6)) :: R)) (n : Int) (p : Option Addr) (cp : Nat) (ss : List St) (hr : StsAt w0 p ss) (h0 : HD) (B : List (List Int)) (hmB : ∀ y ∈ gbR fiR 70 h0 B, y ∈ R) (hoB : goR fiR h0 B) (hV0 : VY n ss) (hVF : ∀ x ∈ F, VM n ss x) (hVB : ∀ x ∈ B, VM n ss x) (hBl : B.length ≤ 10000) :
    Calls Try.prog 89 #[yv n p ss.length cp, gval h0 B.length, .map (some b)] w (Post (X := HD) (fun h => gval h (rB ss B B.length F).2.length) (fun h => goR fiR h (rB ss B B.length F).2) (fun h => gbR fiR 70 h (rB ss B B.length F).2 ++ ((b, bobj ((rB ss B B.length F).1.map pad6)) :: R)) w0) := by
  have hsl := hV0.len
  refine callsM hn Try.func89 rfl (n := 50) rfl (by simp) ?_
  refine TC.seq ?_
  refine TC.region ?_
  refine TL.box rfl rfl (by decide) (fun b0 hb0 => ?_)
  refine TL.pure (PV.assign rfl) rfl (by decide) ?_
  refine TL.nil ?_
  refine TQ.thenC ?_
  refine TC.seq ?_
  refine TC.region ?_
  refine TL.pure (PV.assign rfl) rfl (by decide) ?_
  refine TL.nil ?_
  refine TQ.thenC ?_
  refine TC.seq ?_
  refine TC.seq ?_
  refine TC.region ?_
  refine TL.pure (PV.move rfl) rfl (by decide) ?_
  refine TL.pure (PV.lenG (h := h0) (len := B.length) (ys := rcs fiR B) rfl hoB Tb.sl_94) rfl (by decide) ?_
  refine TL.pure (PV.move rfl) rfl (by decide) ?_
  refine TL.nil ?_
  refine TQ.thenC ?_
  refine TC.block ?_
  refine TC.lit [(2, _), (3, _), (6, _), (7, _), (14, _), (15, _), (16, _)] (by repeat (first | exact True.intro | refine And.intro rfl ?_)) ?_
  refine TC.loopK [2, 3, 6, 14, 15] (X := Nat × HD) (fun x => x.1 ≤ B.length ∧ goR fiR x.2 (rB ss B x.1 F).2) (fun x => [(16, .int .i64 x.1), (7, gval x.2 (rB ss B x.1 F).2.length)]) (fun x => gbR fiR 70 x.2 (rB ss B x.1 F).2 ++ ((b0, Obj.cells #[.int .i64 n, .slice p ss.length cp] 24 (0, 0)) :: (b, bobj ((rB ss B x.1 F).1.map pad6)) :: R)) (fun x => B.length - x.1) (0, none) ⟨Nat.zero_le _, ⟨rfl, rfl⟩⟩ (by repeat (first | exact True.intro | refine And.intro rfl ?_)) (by repeat (first | exact List.Sublist.slnil | exact List.nil_sublist _ | exact List.Sublist.refl _ | refine List.Sublist.cons_cons _ ?_ | refine List.Sublist.cons _ ?_ | refine List.Sublist.trans ?_ (List.sublist_append_right _ _))) ?_
  intro x hx9
  refine TC.lit [(2, _), (3, _), (6, _), (7, _), (14, _), (15, _), (16, _)] (by repeat (first | exact True.intro | refine And.intro rfl ?_)) ?_
  refine TC.seq ?_
  refine TC.region ?_
  refine TL.pure (PV.lss rfl rfl) rfl (by decide) ?_
  refine TL.nil ?_
  refine TQ.thenC ?_
  refine TC.seq ?_
  first | refine TC.condD rfl (fun hlt => ?_) (fun hlt => ?_) | refine TC.cond rfl (fun hlt => ?_) (fun hlt => ?_)
  · skip
    refine TC.skip ?_
    refine TQ.thenC ?_
    refine TC.seq ?_
    refine TC.block ?_
    refine TC.seq ?_
    have hxl := hx9.1
    have hVM := getD_vm hVB (j := x.1) (by omega)
    have hm6 := pad_len hVM.l6
    have hV1 := rB_vs hVB hVF x.1 hxl
    have hl1 := rB_len hsl B F x.1
    refine TC.region ?_
    refine TL.pure (PV.indexG (h := h0) (len := B.length) (ys := rcs fiR B) (j := x.1) rfl rfl hoB Tb.elm_94 rfl (by omega)) rfl (by decide) ?_
    refine TL.pure (PV.loadFi rfl (fun y9 hy9 => by have h5 := hmB y9 hy9; simp only [List.mem_append, List.mem_cons]; simp [h5]) hoB (by omega) hVM.l6) rfl (by decide) ?_
    refine TL.alloc Tb.zero_70 rfl (by decide) (fun bm hbm => ?_)
    refine TL.storeAgg (vs := (pad6 (B.getD x.1 [])).map (Value.int .i64)) rfl rfl Tb.cells_70 (by repeat (first | exact Upd.head _ | apply Upd.tail | apply Upd.appR)) (map_len hm6) rfl (ints_one _) rfl rfl ?_
    refine TL.nil ?_
    refine TQ.thenC ?_
    refine TC.seq ?_
    refine TC.region ?_
    refine TL.pure (PV.fieldAddr rfl Tb.fo_24_1) rfl (by decide) ?_
    refine TL.pure (PV.load rfl Tb.one_22 (by repeat (first | exact List.Mem.head _ | refine List.Mem.tail _ ?_ | refine List.mem_append_right _ ?_)) rfl) rfl (by decide) ?_
    refine TL.pure (PV.len rfl Tb.sl_22) rfl (by decide) ?_
    refine TL.pure (PV.move rfl) rfl (by decide) ?_
    refine TL.nil ?_
    refine TQ.thenC ?_
    refine TC.block ?_
    refine TC.lit [(2, _), (3, _), (6, _), (7, _), (9, _), (14, _), (15, _), (16, _), (21, _), (22, _), (23, _)] (by repeat (first | exact True.intro | refine And.intro rfl ?_)) ?_
    refine TC.perm (G' := gbR fiR 70 x.2 (rB ss B x.1 F).2 ++ ((bm, Obj.cells (intsA (pad6 (B.getD x.1 []))) 70 (0, 0)) :: (b0, Obj.cells #[.int .i64 n, .slice p ss.length cp] 24 (0, 0)) :: (b, bobj ((rB ss B x.1 F).1.map pad6)) :: R)) List.perm_middle ?_
    refine TC.loopK [2, 3, 6, 9, 14, 15, 16, 21, 22] (X := Nat × HD) (fun y => y.1 ≤ ss.length ∧ goR fiR y.2 (rM ss (B.getD x.1 []) y.1 (rB ss B x.1 F)).2) (fun y => [(23, .int .i64 y.1), (7, gval y.2 (rM ss (B.getD x.1 []) y.1 (rB ss B x.1 F)).2.length)]) (fun y => gbR fiR 70 y.2 (rM ss (B.getD x.1 []) y.1 (rB ss B x.1 F)).2 ++ ((bm, Obj.cells (intsA (pad6 (B.getD x.1 []))) 70 (0, 0)) :: (b0, Obj.cells #[.int .i64 n, .slice p ss.length cp] 24 (0, 0)) :: (b, bobj ((rM ss (B.getD x.1 []) y.1 (rB ss B x.1 F)).1.map pad6)) :: R)) (fun y => ss.length - y.1) (0, x.2) ⟨Nat.zero_le _, hx9.2⟩ (by repeat (first | exact True.intro | refine And.intro rfl ?_)) (by repeat (first | exact List.Sublist.slnil | exact List.nil_sublist _ | exact List.Sublist.refl _ | refine List.Sublist.cons_cons _ ?_ | refine List.Sublist.cons _ ?_ | refine List.Sublist.trans ?_ (List.sublist_append_right _ _))) ?_
    intro y hy9
    refine TC.lit [(2, _), (3, _), (6, _), (7, _), (9, _), (14, _), (15, _), (16, _), (21, _), (22, _), (23, _)] (by repeat (first | exact True.intro | refine And.intro rfl ?_)) ?_
    refine TC.seq ?_
    refine TC.region ?_
    refine TL.pure (PV.lss rfl rfl) rfl (by decide) ?_
    refine TL.nil ?_
    refine TQ.thenC ?_
    refine TC.seq ?_
    first | refine TC.condD rfl (fun hlt2 => ?_) (fun hlt2 => ?_) | refine TC.cond rfl (fun hlt2 => ?_) (fun hlt2 => ?_)
    · skip
      refine TC.skip ?_
      refine TQ.thenC ?_
      refine TC.seq ?_
      refine TC.block ?_
      refine TC.seq ?_
      have hyl := hy9.1
      obtain ⟨q1, hq1p, pa, pb, ca, cb, hq10, hq11, hta, htb⟩ := hr y.1 (by omega)
      refine TC.region ?_
      refine TL.pure (PV.indexA (j := y.1) rfl hq1p rfl Tb.elm_22 rfl (by omega)) rfl (by decide) ?_
      refine TL.pure (PV.loadAggA rfl Tb.agg_63 rfl (two_cells hq10 hq11)) rfl (by decide) ?_
      refine TL.alloc Tb.zero_63 rfl (by decide) (fun bq hbq => ?_)
      refine TL.storeAgg (vs := [.slice pa (ss.getD y.1 default).t.length ca, .slice pb (ss.getD y.1 default).g.length cb]) rfl rfl Tb.cells_63 (by repeat (first | exact Upd.head _ | apply Upd.tail | apply Upd.appR)) rfl rfl rfl rfl rfl ?_
      refine TL.nil ?_
      refine TQ.thenC ?_
      refine TC.seq ?_
      have hF := hVM.fits (k := y.1) (by omega)
      have hl6 := pad_len (doL_l6 (s := (ss.getD y.1 default)) hVM.l6)
      have hV2 := rM_vs hVM hV1 y.1 hyl
      have hl2 := rM_len ss (B.getD x.1 []) (rB ss B x.1 F) y.1
      refine TC.region ?_
      refine TL.pure (PV.loadBox (cs := (pad6 (B.getD x.1 [])).map (Value.int .i64)) rfl Tb.agg_70 (by repeat (first | exact List.Mem.head _ | refine List.Mem.tail _ ?_ | refine List.mem_append_right _ ?_)) (map_len hm6)) rfl (by decide) ?_
      refine TL.pure (PV.loadBox (cs := [.slice pa (ss.getD y.1 default).t.length ca, .slice pb (ss.getD y.1 default).g.length cb]) rfl Tb.agg_63 (by repeat (first | exact List.Mem.head _ | refine List.Mem.tail _ ?_ | refine List.mem_append_right _ ?_)) rfl) rfl (by decide) ?_
      refine TL.call rfl Tb.gofn_67 (fun a w hs => do_ok w (B.getD x.1 []) pa pb ca cb (ss.getD y.1 default) (hta.new hs.new) (htb.new hs.new) hF) rfl (by decide) (fun _ _ => ?_)
      refine TL.pure (PV.move rfl) rfl (by decide) ?_
      refine TL.pure (PV.extract rfl rfl) rfl (by decide) ?_
      refine TL.pure (PV.extract rfl rfl) rfl (by decide) ?_
      refine TL.alloc Tb.zero_70 rfl (by decide) (fun bt hbt => ?_)
      refine TL.storeAgg (vs := (pad6 (doL (B.getD x.1 []) (ss.getD y.1 default))).map (Value.int .i64)) rfl rfl Tb.cells_70 (by repeat (first | exact Upd.head _ | apply Upd.tail | apply Upd.appR)) (map_len hl6) rfl (ints_one _) rfl rfl ?_
      refine TL.pure (PV.assign rfl) rfl (by decide) ?_
      refine TL.nil ?_
      refine TQ.thenC ?_
      refine TC.seq ?_
      refine TC.region ?_
      refine TL.pure (PV.move rfl) rfl (by decide) ?_
      refine TL.pure (PV.eql rfl rfl) rfl (by decide) ?_
      refine TL.pure (PV.move rfl) rfl (by decide) ?_
      first | refine TL.splitD 35 rfl (fun g1 => ?_) (fun g1 => ?_) | refine TL.split 35 rfl (fun g1 => ?_) (fun g1 => ?_)
      · skip
        refine TL.pure (PV.move rfl) rfl (by decide) ?_
        try rw [doL_0 g1]
        refine TL.pure (PV.loadBox (cs := (pad6 (doN (B.getD x.1 []) (ss.getD y.1 default))).map (Value.int .i64)) rfl Tb.agg_70 (by repeat (first | exact List.Mem.head _ | refine List.Mem.tail _ ?_ | refine List.mem_append_right _ ?_)) (map_len (by rw [← doL_0 g1]; exact hl6))) rfl (by decide) ?_
        first | have hVN : VM n ss (doN (B.getD x.1 []) (ss.getD y.1 default)) := hVM.next (by omega) g1 | skip
        first | have hn6 := pad_len hVN.l6 | skip
        refine TL.pure (PV.lookupB (es := (rM ss (B.getD x.1 []) y.1 (rB ss B x.1 F)).1.map pad6) key_70 ut_95 zo_4 rfl rfl hn6 (pads_len hV2.f) (by repeat (first | exact List.Mem.head _ | refine List.Mem.tail _ ?_ | refine List.mem_append_right _ ?_))) rfl (by decide) ?_
        refine TL.pure ((by first | exact PV.notD rfl | exact PV.not rfl)) rfl (by decide) ?_
        refine TL.pure (PV.pickT rfl rfl) rfl (by decide) ?_
        refine TL.nil ?_
        refine TQ.thenC ?_
        first | refine TC.condD rfl (fun a2 => ?_) (fun a2 => ?_) | refine TC.cond rfl (fun a2 => ?_) (fun a2 => ?_)
        · skip
          have hme : doN (B.getD x.1 []) (ss.getD y.1 default) ∉ (rM ss (B.getD x.1 []) y.1 (rB ss B x.1 F)).1 := fun h => by have h5 := (pad_mem hV2.f hVN).2 h; exact absurd h5 (by simpa using a2)
          have hst := rM_new g1 hme
          have hnk := fun h => hme ((pad_mem hV2.f hVN).1 h)
          refine TC.seq ?_
          refine TC.region ?_
          refine TL.pure (PV.move rfl) rfl (by decide) ?_
          refine TL.pure (PV.loadBox (cs := (pad6 (doN (B.getD x.1 []) (ss.getD y.1 default))).map (Value.int .i64)) rfl Tb.agg_70 (by repeat (first | exact List.Mem.head _ | refine List.Mem.tail _ ?_ | refine List.mem_append_right _ ?_)) (map_len hn6)) rfl (by decide) ?_
          refine TL.updateB (es := (rM ss (B.getD x.1 []) y.1 (rB ss B x.1 F)).1.map pad6) (xs := pad6 (doN (B.getD x.1 []) (ss.getD y.1 default))) key_70 ut_95 rfl rfl rfl hn6 (pads_len hV2.f) hnk (by rw [← map_snoc]; exact (by repeat (first | exact Upd.head _ | apply Upd.tail | apply Upd.appR))) rfl rfl ?_
          refine TL.nil ?_
          refine TQ.thenC ?_
          refine TC.region ?_
          refine TL.pure (PV.move rfl) rfl (by decide) ?_
          refine TL.pure (PV.loadBox (cs := (pad6 (doN (B.getD x.1 []) (ss.getD y.1 default))).map (Value.int .i64)) rfl Tb.agg_70 (by repeat (first | exact List.Mem.head _ | refine List.Mem.tail _ ?_ | refine List.mem_append_right _ ?_)) (map_len hn6)) rfl (by decide) ?_
          refine TL.buildSlice (cs := intsA (pad6 (doN (B.getD x.1 []) (ss.getD y.1 default)))) rfl Tb.sl_94 Tb.zi_70 (by decide) (fill_f hn6) (by decide) rfl (by decide) (fun bE hbE => ?_)
          refine TL.appendRec (R := fiR) (h0 := y.2) (ys := (rM ss (B.getD x.1 []) y.1 (rB ss B x.1 F)).2) (b := bE) (r := doN (B.getD x.1 []) (ss.getD y.1 default)) Tb.sl_94 Tb.zi_70 rfl rfl rfl (by rw [fi_cells hVN.l6]; exact (by repeat (first | exact List.Mem.head _ | refine List.Mem.tail _ ?_ | refine List.mem_append_right _ ?_))) hy9.2 (by repeat (first | exact TakeH.here _ _ _ _ | apply TakeH.tail | apply TakeH.app)) (by omega) (by omega) rfl (by decide) (fun hh hho => ?_)
          refine TL.pure (PV.assign rfl) rfl (by decide) ?_
          refine TL.nil ?_
          refine TQ.blkN ?_
          refine TQ.thenC ?_
          refine TC.region ?_
          refine TL.pure (PV.add rfl rfl (by omega)) rfl (by decide) ?_
          refine TL.pure (PV.move rfl) rfl (by decide) ?_
          refine TL.nil ?_
          refine TQ.thenN ?_
          refine TQ.backK (y.1 + 1, (by first | exact hh | exact y.2)) (And.intro rfl (And.intro (by show some _ = some (gval _ (rM ss (B.getD x.1 []) (y.1 + 1) (rB ss B x.1 F)).2.length); first | rw [hst] | rw [rM_no g1] | rw [rM_old hme]) True.intro)) (by repeat (first | exact True.intro | refine And.intro rfl ?_)) (by first | (show List.Sublist (gbR fiR 70 _ (rM ss (B.getD x.1 []) (y.1 + 1) (rB ss B x.1 F)).2 ++ _) _; first | rw [hst] | rw [rM_no g1] | rw [rM_old hme]); repeat (first | exact List.Sublist.refl _ | refine List.Sublist.cons _ ?_ | refine List.Sublist.append_left ?_ _)) ⟨by simp only; omega, by show goR fiR _ (rM ss (B.getD x.1 []) (y.1 + 1) (rB ss B x.1 F)).2; first | (rw [hst]; exact hho) | (rw [rM_no g1]; exact hy9.2) | (rw [rM_old hme]; exact hy9.2)⟩ (by simp only; omega)
        · skip
          have hme : doN (B.getD x.1 []) (ss.getD y.1 default) ∈ (rM ss (B.getD x.1 []) y.1 (rB ss B x.1 F)).1 := (pad_mem hV2.f hVN).1 (by simpa using a2)
          refine TC.skip ?_
          refine TQ.blkN ?_
          refine TQ.thenC ?_
          refine TC.region ?_
          refine TL.pure (PV.add rfl rfl (by omega)) rfl (by decide) ?_
          refine TL.pure (PV.move rfl) rfl (by decide) ?_
          refine TL.nil ?_
          refine TQ.thenN ?_
          refine TQ.backK (y.1 + 1, (by first | exact hh | exact y.2)) (And.intro rfl (And.intro (by show some _ = some (gval _ (rM ss (B.getD x.1 []) (y.1 + 1) (rB ss B x.1 F)).2.length); first | rw [hst] | rw [rM_no g1] | rw [rM_old hme]) True.intro)) (by repeat (first | exact True.intro | refine And.intro rfl ?_)) (by first | (show List.Sublist (gbR fiR 70 _ (rM ss (B.getD x.1 []) (y.1 + 1) (rB ss B x.1 F)).2 ++ _) _; first | rw [hst] | rw [rM_no g1] | rw [rM_old hme]); repeat (first | exact List.Sublist.refl _ | refine List.Sublist.cons _ ?_ | refine List.Sublist.append_left ?_ _)) ⟨by simp only; omega, by show goR fiR _ (rM ss (B.getD x.1 []) (y.1 + 1) (rB ss B x.1 F)).2; first | (rw [hst]; exact hho) | (rw [rM_no g1]; exact hy9.2) | (rw [rM_old hme]; exact hy9.2)⟩ (by simp only; omega)
      · skip
        refine TL.skip rfl (fun k hk => by cases hk; decide) ?_
        try rw [doL_0 g1]
        refine TL.skip rfl (fun k hk => by cases hk; decide) ?_
        first | have hVN : VM n ss (doN (B.getD x.1 []) (ss.getD y.1 default)) := hVM.next (by omega) g1 | skip
        first | have hn6 := pad_len hVN.l6 | skip
        refine TL.skip rfl (fun k hk => by cases hk; decide) ?_
        refine TL.skip rfl (fun k hk => by cases hk; decide) ?_
        refine TL.pure (PV.pickF rfl rfl) rfl (by decide) ?_
        refine TL.nil ?_
        refine TQ.thenC ?_
        refine TC.condF rfl ?_
        refine TC.skip ?_
        refine TQ.blkN ?_
        refine TQ.thenC ?_
        refine TC.region ?_
        refine TL.pure (PV.add rfl rfl (by omega)) rfl (by decide) ?_
        refine TL.pure (PV.move rfl) rfl (by decide) ?_
        refine TL.nil ?_
        refine TQ.thenN ?_
        refine TQ.backK (y.1 + 1, (by first | exact hh | exact y.2)) (And.intro rfl (And.intro (by show some _ = some (gval _ (rM ss (B.getD x.1 []) (y.1 + 1) (rB ss B x.1 F)).2.length); first | rw [hst] | rw [rM_no g1] | rw [rM_old hme]) True.intro)) (by repeat (first | exact True.intro | refine And.intro rfl ?_)) (by first | (show List.Sublist (gbR fiR 70 _ (rM ss (B.getD x.1 []) (y.1 + 1) (rB ss B x.1 F)).2 ++ _) _; first | rw [hst] | rw [rM_no g1] | rw [rM_old hme]); repeat (first | exact List.Sublist.refl _ | refine List.Sublist.cons _ ?_ | refine List.Sublist.append_left ?_ _)) ⟨by simp only; omega, by show goR fiR _ (rM ss (B.getD x.1 []) (y.1 + 1) (rB ss B x.1 F)).2; first | (rw [hst]; exact hho) | (rw [rM_no g1]; exact hy9.2) | (rw [rM_old hme]; exact hy9.2)⟩ (by simp only; omega)
    · skip
      refine TC.exit ?_
      refine TQ.thenE ?_
      refine TQ.thenE ?_
      refine TQ.blkS ?_
      refine TQ.blkN ?_
      refine TQ.thenC ?_
      have hye : y.1 = ss.length := by have := hy9.1; omega
      refine TC.region ?_
      refine TL.pure (PV.add rfl rfl (by omega)) rfl (by decide) ?_
      refine TL.pure (PV.move rfl) rfl (by decide) ?_
      refine TL.nil ?_
      refine TQ.thenN ?_
      refine TQ.backK (x.1 + 1, y.2) (And.intro rfl (And.intro (by show some (gval y.2 (rM ss (B.getD x.1 []) y.1 (rB ss B x.1 F)).2.length) = some (gval y.2 (rM ss (B.getD x.1 []) ss.length (rB ss B x.1 F)).2.length); rw [hye]) True.intro)) (by repeat (first | exact True.intro | refine And.intro rfl ?_)) (by show List.Sublist (gbR fiR 70 y.2 (rM ss (B.getD x.1 []) ss.length (rB ss B x.1 F)).2 ++ ((b0, Obj.cells #[.int .i64 n, .slice p ss.length cp] 24 (0, 0)) :: (b, bobj ((rM ss (B.getD x.1 []) ss.length (rB ss B x.1 F)).1.map pad6)) :: R)) _; rw [← hye]; exact List.Sublist.append_left (List.sublist_cons_self _ _) _) ⟨by simp only; omega, by show goR fiR y.2 (rM ss (B.getD x.1 []) ss.length (rB ss B x.1 F)).2; rw [← hye]; exact hy9.2⟩ (by simp only; omega)
  · skip
    refine TC.exit ?_
    refine TQ.thenE ?_
    refine TQ.thenE ?_
    refine TQ.blkS ?_
    refine TQ.thenC ?_
    refine TC.seq ?_
    have hxe : x.1 = B.length := by have := hx9.1; omega
    refine TC.region ?_
    refine TL.pure (PV.move rfl) rfl (by decide) ?_
    refine TL.pure (PV.assign rfl) rfl (by decide) ?_
    refine TL.nil ?_
    refine TQ.thenC ?_
    refine TC.ret ?_
    refine TQ.retE1 rfl rfl ?_
    rw [hxe] at hx9
    rw [hxe]
    exact ⟨x.2, rfl, hx9.2, List.Sublist.append_left (List.sublist_cons_self _ _) _⟩

set_option maxRecDepth 100000 in
set_option maxHeartbeats 4000000 in
theorem Reach_ok (w0 : World) (n : Int) (p : Option Addr) (cp : Nat) (ss : List St) (hr : StsAt w0 p ss) (hS : SmS ss) (vx : Value) (xs : List Int) (hv : IsI w0 vx xs) (hl : xs.length ≤ 1000000) (most : Int) :
    Calls Try.prog 39 #[yv n p ss.length cp, vx, .int .i64 most] w0 (Post (X := Unit) (fun _ => .tuple #[.int .i64 (rchR n ss xs most).1, .int .i64 (rchR n ss xs most).2]) (fun _ => True) (fun _ => []) w0) := by
  obtain ⟨pl, cl, rfl, hx⟩ := hv
  refine calls Try.func39 rfl (n := 38) rfl (by simp) ?_
  refine TC.seq ?_
  refine TC.region ?_
  refine TL.box rfl rfl (by decide) (fun b0 hb0 => ?_)
  refine TL.pure (PV.assign rfl) rfl (by decide) ?_
  refine TL.pure (PV.assign rfl) rfl (by decide) ?_
  refine TL.nil ?_
  refine TQ.thenC ?_
  refine TC.seq ?_
  refine TC.seq ?_
  refine TC.region ?_
  refine TL.pure (PV.loadBox rfl Tb.agg_24 (by repeat (first | exact List.Mem.head _ | refine List.Mem.tail _ ?_ | refine List.mem_append_right _ ?_)) rfl) rfl (by decide) ?_
  refine TL.pure (PV.move rfl) rfl (by decide) ?_
  refine TL.buildSlice (cs := #[.slice pl xs.length cl]) rfl Tb.sl_97 Tb.zi_25 (by decide) (fill_o _ _ _) (by decide) rfl (by decide) (fun bV hbV => ?_)
  refine TL.call rfl Tb.gofn_73 (fun a w hs => valFil_ok w _ _ _ _ (hr.new hs.new) hS _ _ 1 [xs] (LsAt.one hs.new (by repeat (first | exact List.Mem.head _ | refine List.Mem.tail _ ?_ | refine List.mem_append_right _ ?_)) (hx.new hs.new)) rfl (one_len hl) (by simp)) rfl (by decide) (fun _ _ => ?_)
  refine TL.pure (PV.assign rfl) rfl (by decide) ?_
  refine TL.nil ?_
  refine TQ.thenC ?_
  refine TC.seq ?_
  refine TC.region ?_
  refine TL.pure (PV.move rfl) rfl (by decide) ?_
  refine TL.pure (PV.neq rfl rfl) rfl (by decide) ?_
  refine TL.nil ?_
  refine TQ.thenC ?_
  first | refine TC.condD rfl (fun a1 => ?_) (fun a1 => ?_) | refine TC.cond rfl (fun a1 => ?_) (fun a1 => ?_)
  · skip
    refine TC.seq ?_
    refine TC.region ?_
    refine TL.pure (PV.move rfl) rfl (by decide) ?_
    refine TL.pure (PV.assign rfl) rfl (by decide) ?_
    refine TL.pure (PV.assign rfl) rfl (by decide) ?_
    refine TL.nil ?_
    refine TQ.thenC ?_
    refine TC.ret ?_
    refine TQ.thenR ?_
    refine TQ.retE2 rfl rfl rfl ?_
    have e9 : rchR n ss xs most = (0, filI n ss [xs]) := if_pos a1
    exact ⟨(), by rw [e9], trivial, List.nil_sublist _⟩
  · skip
    refine TC.skip ?_
    refine TQ.thenC ?_
    refine TC.seq ?_
    refine TC.seq ?_
    refine TC.region ?_
    refine TL.pure (PV.move rfl) rfl (by decide) ?_
    refine TL.call rfl Tb.gofn_84 (fun a w hs => isMost_ok w most) rfl (by decide) (fun _ _ => ?_)
    refine TL.pure ((by first | exact PV.notD rfl | exact PV.not rfl)) rfl (by decide) ?_
    refine TL.nil ?_
    refine TQ.thenC ?_
    first | refine TC.condD rfl (fun a2 => ?_) (fun a2 => ?_) | refine TC.cond rfl (fun a2 => ?_) (fun a2 => ?_)
    · skip
      refine TC.seq ?_
      refine TC.region ?_
      refine TL.pure (PV.assign rfl) rfl (by decide) ?_
      refine TL.pure (PV.assign rfl) rfl (by decide) ?_
      refine TL.nil ?_
      refine TQ.thenC ?_
      refine TC.ret ?_
      refine TQ.thenR ?_
      refine TQ.retE2 rfl rfl rfl ?_
      have e9 : rchR n ss xs most = (0, 1) := by unfold rchR; rw [if_neg a1, if_neg (by unfold wiB; simpa using a2)]
      exact ⟨(), by rw [e9], trivial, List.nil_sublist _⟩
    · skip
      refine TC.skip ?_
      refine TQ.thenC ?_
      refine TC.seq ?_
      have hmo : wiB most 0 5 = true := by unfold wiB; simpa using a2
      have hm5 : 0 ≤ most ∧ most ≤ 5 := of_decide_eq_true hmo
      obtain ⟨N, rfl⟩ : ∃ N : Nat, most = N := ⟨most.toNat, by omega⟩
      have hV := vm_of a1
      have hp6 := pad_len hV.l6
      have hsl := hV.toVY.len
      have e9 : rchR n ss xs N = ((((rR ss xs N).1.length : Nat) : Int), 0) := by unfold rchR; rw [if_neg a1, if_pos hmo, Int.toNat_natCast]
      refine TC.region ?_
      refine TL.pure (PV.move rfl) rfl (by decide) ?_
      refine TL.call rfl Tb.gofn_63 (fun a w hs => fillingOf_ok w _ _ _ (hx.new hs.new) hV.l6) rfl (by decide) (fun _ _ => ?_)
      refine TL.buildSlice (cs := intsA (pad6 xs)) rfl Tb.sl_94 Tb.zi_70 (by decide) (fill_f hp6) (by decide) rfl (by decide) (fun bS hbS => ?_)
      refine TL.pure (PV.assign rfl) rfl (by decide) ?_
      refine TL.nil ?_
      refine TQ.thenC ?_
      refine TC.seq ?_
      refine TC.region ?_
      refine TL.makeMapB rfl (by decide) (fun bM hbM => ?_)
      refine TL.pure (PV.move rfl) rfl (by decide) ?_
      refine TL.call rfl Tb.gofn_63 (fun a w hs => fillingOf_ok w _ _ _ (hx.new hs.new) hV.l6) rfl (by decide) (fun _ _ => ?_)
      refine TL.insertB (es := []) (xs := pad6 xs) key_70 ut_95 rfl rfl rfl hp6 (fun q hq => by cases hq) (fun h => by cases h) (by repeat (first | exact Upd.head _ | apply Upd.tail | apply Upd.appR)) rfl rfl ?_
      refine TL.pure (PV.move rfl) rfl (by decide) ?_
      refine TL.pure (PV.assign rfl) rfl (by decide) ?_
      refine TL.nil ?_
      refine TQ.thenC ?_
      refine TC.seq ?_
      refine TC.seq ?_
      refine TC.region ?_
      refine TL.pure (PV.move rfl) rfl (by decide) ?_
      refine TL.pure (PV.move rfl) rfl (by decide) ?_
      refine TL.nil ?_
      refine TQ.thenC ?_
      refine TC.block ?_
      refine TC.lit [(3, _), (6, _), (7, _), (9, _), (10, _), (28, _), (29, _)] (by repeat (first | exact True.intro | refine And.intro rfl ?_)) ?_
      refine TC.loopK [3, 6, 7, 10, 28] (X := Nat × HD) (fun x => x.1 ≤ N ∧ goR fiR x.2 (rR ss xs x.1).2) (fun x => [(29, .int .i64 x.1), (9, gval x.2 (rR ss xs x.1).2.length)]) (fun x => (bM, bobj ((rR ss xs x.1).1.map pad6)) :: (gbR fiR 70 x.2 (rR ss xs x.1).2 ++ [(b0, Obj.cells #[.int .i64 n, .slice p ss.length cp] 24 (0, 0))])) (fun x => N - x.1) (0, some (bS, 1, [])) ⟨Nat.zero_le _, go1 _ _⟩ (by repeat (first | exact True.intro | refine And.intro rfl ?_)) (by show List.Sublist (_ :: (gbR fiR 70 (some (bS, 1, [])) [xs] ++ [_])) _; rw [gb1 hV.l6]; repeat (first | exact List.Sublist.refl _ | exact List.Sublist.cons_cons _ (List.Sublist.cons_cons _ (List.Sublist.cons _ (List.Sublist.refl _))) | exact List.Sublist.cons_cons _ (List.Sublist.cons_cons _ (List.Sublist.cons_cons _ (List.nil_sublist _))))) ?_
      intro x hx9
      refine TC.lit [(3, _), (6, _), (7, _), (9, _), (10, _), (28, _), (29, _)] (by repeat (first | exact True.intro | refine And.intro rfl ?_)) ?_
      refine TC.seq ?_
      refine TC.region ?_
      refine TL.pure (PV.lss rfl rfl) rfl (by decide) ?_
      refine TL.nil ?_
      refine TQ.thenC ?_
      refine TC.seq ?_
      first | refine TC.condD rfl (fun hlt => ?_) (fun hlt => ?_) | refine TC.cond rfl (fun hlt => ?_) (fun hlt => ?_)
      · skip
        refine TC.skip ?_
        refine TQ.thenC ?_
        refine TC.seq ?_
        refine TC.block ?_
        have hvs := rR_vs hV x.1
        have hbd := rR_bd hsl xs (i := x.1) (by omega)
        refine TC.region ?_
        refine TL.pure (PV.loadBox rfl Tb.agg_24 (by repeat (first | exact List.Mem.head _ | refine List.Mem.tail _ ?_ | refine List.mem_append_right _ ?_)) rfl) rfl (by decide) ?_
        refine TL.pure (PV.move rfl) rfl (by decide) ?_
        refine TL.pure (PV.move rfl) rfl (by decide) ?_
        refine TL.callW (X := HD) (fun h => gval h ((rB ss (rR ss xs x.1).2 (rR ss xs x.1).2.length (rR ss xs x.1).1)).2.length) (fun h => goR fiR h ((rB ss (rR ss xs x.1).2 (rR ss xs x.1).2.length (rR ss xs x.1).1)).2) (fun h => gbR fiR 70 h ((rB ss (rR ss xs x.1).2 (rR ss xs x.1).2.length (rR ss xs x.1).1)).2 ++ ((bM, bobj (((rB ss (rR ss xs x.1).2 (rR ss xs x.1).2.length (rR ss xs x.1).1)).1.map pad6)) :: (gbR fiR 70 x.2 (rR ss xs x.1).2 ++ [(b0, Obj.cells #[.int .i64 n, .slice p ss.length cp] 24 (0, 0))]))) rfl Tb.gofn_89 (fun a w hs => onward_ok (R := gbR fiR 70 x.2 (rR ss xs x.1).2 ++ [(b0, Obj.cells #[.int .i64 n, .slice p ss.length cp] 24 (0, 0))]) hs.new n p cp ss hr x.2 (rR ss xs x.1).2 (fun y hy => List.mem_append_left _ hy) hx9.2 hV.toVY hvs.f hvs.b (by omega)) rfl (by decide) (fun h9 hh9 => ?_)
        refine TL.pure (PV.assign rfl) rfl (by decide) ?_
        refine TL.nil ?_
        refine TQ.blkN ?_
        refine TQ.thenC ?_
        refine TC.region ?_
        refine TL.pure (PV.add rfl rfl (by omega)) rfl (by decide) ?_
        refine TL.pure (PV.move rfl) rfl (by decide) ?_
        refine TL.nil ?_
        refine TQ.thenN ?_
        refine TQ.perm (G' := ((bM, bobj (((rB ss (rR ss xs x.1).2 (rR ss xs x.1).2.length (rR ss xs x.1).1)).1.map pad6)) :: (gbR fiR 70 h9 ((rB ss (rR ss xs x.1).2 (rR ss xs x.1).2.length (rR ss xs x.1).1)).2 ++ [(b0, Obj.cells #[.int .i64 n, .slice p ss.length cp] 24 (0, 0))])) ++ gbR fiR 70 x.2 (rR ss xs x.1).2) (perm_of fun c9 => by simp only [List.map_append, List.sum_append, List.map_cons, List.sum_cons, List.map_nil, List.sum_nil]; omega) ?_
        refine TQ.backK (x.1 + 1, h9) (by repeat (first | exact True.intro | refine And.intro rfl ?_)) (by repeat (first | exact True.intro | refine And.intro rfl ?_)) (List.sublist_append_left _ _) ⟨by simp only; omega, hh9⟩ (by simp only; omega)
      · skip
        refine TC.exit ?_
        refine TQ.thenE ?_
        refine TQ.thenE ?_
        refine TQ.blkS ?_
        refine TQ.thenC ?_
        refine TC.seq ?_
        have hxe : x.1 = N := by have := hx9.1; omega
        refine TC.region ?_
        refine TL.pure (PV.move rfl) rfl (by decide) ?_
        refine TL.pure (PV.lenB rfl ut_95 (by repeat (first | exact List.Mem.head _ | refine List.Mem.tail _ ?_ | refine List.mem_append_right _ ?_))) rfl (by decide) ?_
        refine TL.pure (PV.assign rfl) rfl (by decide) ?_
        refine TL.pure (PV.assign rfl) rfl (by decide) ?_
        refine TL.nil ?_
        refine TQ.thenC ?_
        refine TC.ret ?_
        refine TQ.retE2 rfl rfl rfl ?_
        exact ⟨(), by rw [e9, List.length_map, hxe], trivial, List.nil_sublist _⟩

end Go.Proofs.Ytkkipbkkijoneaa
