/- Lists with given counts, and ways, found: contracts. -/
import Derived.Test.YtkkipbkkijoneaaDs
import Derived.Test.YtkkipbkkijoneaaDi
set_option linter.unusedVariables false
set_option linter.unusedSimpArgs false
namespace Go.Proofs.Ytkkipbkkijoneaa
open Go.Sx Go.RowKit Go.Sand

/-- A filling, and how often each step has still to be done: the next one. -/
def nxO (ss : List St) (s : List Int × List Int) (i : Nat) : Option (List Int × List Int) :=
  if doI s.1 (ss.getD i default) = 0 ∧ 1 ≤ s.2.getD i 0 then some (doN s.1 (ss.getD i default), s.2.set i (s.2.getD i 0 - 1)) else none
def encO (s : List Int × List Int) : List Int := pad6 s.1 ++ pad6 s.2
structure InvO (n : Int) (ss : List St) (s : List Int × List Int) : Prop where
  vm : VM n ss s.1
  len : s.2.length = ss.length
  bd : ∀ k, 0 ≤ s.2.getD k 0 ∧ s.2.getD k 0 ≤ 40
theorem enc_len {n : Int} {ss : List St} {s : List Int × List Int} (h : InvO n ss s) : (encO s).length = 12 := by
  unfold encO
  rw [List.length_append, pad_len h.vm.l6, pad_len (by rw [h.len]; exact h.vm.toVY.len)]
theorem getD_set {xs : List Int} {i : Nat} (hi : i < xs.length) (v : Int) (k : Nat) : (xs.set i v).getD k 0 = if i = k then v else xs.getD k 0 := by
  rw [List.getD_eq_getElem?_getD, List.getElem?_set]
  by_cases h : i = k
  · subst h; simp [hi]
  · simp [h]
theorem InvO.next {n : Int} {ss : List St} {s s' : List Int × List Int} (h : InvO n ss s) {i : Nat} (hi : i < ss.length) (hs : nxO ss s i = some s') : InvO n ss s' := by
  unfold nxO at hs
  split at hs
  · rename_i h1
    simp only [Option.some.injEq] at hs
    subst hs
    refine ⟨h.vm.next hi h1.1, by simp only [List.length_set]; exact h.len, fun k => ?_⟩
    simp only
    rw [getD_set (by rw [h.len]; exact hi)]
    have := h.bd k
    have := h.bd i
    split <;> omega
  · cases hs
def nxW (ss : List St) (m : List Int) (i : Nat) : Option (List Int) := if doI m (ss.getD i default) = 0 then some (doN m (ss.getD i default)) else none
theorem nxW_next {n : Int} {ss : List St} {m m' : List Int} (h : VM n ss m) {i : Nat} (hi : i < ss.length) (hs : nxW ss m i = some m') : VM n ss m' := by
  unfold nxW at hs
  split at hs
  · rename_i h1
    simp only [Option.some.injEq] at hs
    subst hs
    exact h.next hi h1
  · cases hs
/-- What the closure leaves of a plan. -/
def aftO (ss : List St) (s : List Int × List Int) (i : Nat) : List Int := pad6 (doL s.1 (ss.getD i default)) ++ (pad6 s.2).set i (s.2.getD i 0 - 1)
theorem pad_set {xs : List Int} {i : Nat} (hi : i < xs.length) (v : Int) : (pad6 xs).set i v = pad6 (xs.set i v) := by
  unfold pad6
  rw [List.set_append_left _ _ hi, List.length_set]
theorem aft_some {n : Int} {ss : List St} {s s' : List Int × List Int} (h : InvO n ss s) {i : Nat} (hi : i < ss.length) (hs : nxO ss s i = some s') : aftO ss s i = encO s' := by
  unfold nxO at hs
  split at hs
  · rename_i h1
    simp only [Option.some.injEq] at hs
    subst hs
    unfold aftO encO
    rw [doL_0 h1.1, pad_set (by rw [h.len]; exact hi)]
  · cases hs
theorem nxO_bool (ss : List St) (s : List Int × List Int) (i : Nat) : (nxO ss s i).isSome = (decide (doI s.1 (ss.getD i default) = 0) && decide (1 ≤ s.2.getD i 0)) := by
  unfold nxO
  by_cases h1 : doI s.1 (ss.getD i default) = 0
  · by_cases h2 : 1 ≤ s.2.getD i 0
    · rw [if_pos ⟨h1, h2⟩, decide_eq_true h1, decide_eq_true h2]; rfl
    · rw [if_neg (fun h => h2 h.2), decide_eq_false h2, Bool.and_false]; rfl
  · rw [if_neg (fun h => h1 h.1), decide_eq_false h1, Bool.false_and]; rfl
theorem nxW_bool (ss : List St) (m : List Int) (i : Nat) : (nxW ss m i).isSome = decide (doI m (ss.getD i default) = 0) := by
  unfold nxW
  by_cases h1 : doI m (ss.getD i default) = 0
  · rw [if_pos h1, decide_eq_true h1]; rfl
  · rw [if_neg h1, decide_eq_false h1]; rfl
section
variable {P : Program} {n : Nat} {w0 : World} {E : Env} {G : Heap} {d : Option Nat} {ty : TypeId} {pos : String} {aft : Array Edge} {g : Option (Nat × Bool)}
/-- &a[i] of an array that lies behind others. -/
theorem PV.indexArrO {x y : Operand} {b o m e j : Nat} {i : Int} {t : Nat} (hx : evo E x = some (.pointer (some ⟨b, o, none⟩))) (hy : evo E y = some (.int .i64 i))
    (ht : arrOf P t = some (m, e, 1)) (hi : i = (j : Int)) (hj : j < m) : PV P n w0 E G ⟨d, .indexAddr t x y, ty, pos, aft, g⟩ (.pointer (some ⟨b, o + j, none⟩)) :=
  fun a w hs => by
    unfold arrOf at ht
    cases hu : P.underlying t with
    | none => simp [hu] at ht
    | some u =>
      cases u <;> simp only [hu] at ht <;> try (simp at ht; done)
      rename_i m' e'
      cases hi2 : P.info? e' with
      | none => simp [hi2] at ht
      | some inf =>
        simp [hi2] at ht
        obtain ⟨rfl, rfl, h3⟩ := ht
        subst hi
        simp only [execOp, hs.ev hx, hs.ev hy]
        simp [Instr.indexAt, run_underlying hu, asIntOf, Instr.sureAddr, sizeOf, typeInfo, hi2, h3, hj, add_off]
theorem PV.sliceAllO {x : Operand} {b o m e : Nat} {t : Nat} (hx : evo E x = some (.pointer (some ⟨b, o, none⟩)))
    (ht : arrOf P t = some (m, e, 1)) (hm : 0 < m) : PV P n w0 E G ⟨d, .slice t x none none none, ty, pos, aft, g⟩ (.slice (some ⟨b, o, none⟩) m m) :=
  fun a w hs => by
    unfold arrOf at ht
    cases hu : P.underlying t with
    | none => simp [hu] at ht
    | some u =>
      cases u <;> simp only [hu] at ht <;> try (simp at ht; done)
      rename_i m' e'
      cases hi2 : P.info? e' with
      | none => simp [hi2] at ht
      | some inf =>
        simp [hi2] at ht
        obtain ⟨rfl, rfl, h3⟩ := ht
        have hm0 : ¬ m' = 0 := by omega
        simp only [execOp, Option.map_none, hs.ev hx]
        simp [Instr.sliceAt, run_underlying hu, Instr.sureAddr, Instr.sliceBounds, run_sliceBound, sizeOf, typeInfo, hi2, h3, add_off, hm0]
variable {ops : Array Oper} {Q : Exit → Act → World → Prop} {l : List Oper}
theorem TL.copyIO {d : Nat} {x y : Operand} {b o len cap cl t1 t2 e eb : Nat} {p : Option Addr} {xs : List Int} {arr : Array Value} {G' : Heap} (hx : evo E x = some (.slice (some ⟨b, o, none⟩) len cap)) (hy : evo E y = some (.slice p xs.length cl))
    (ht : P.underlying t1 = some (.slice e)) (hsz : (P.info? e).map (·.size) = some 1) (hi : IntsAt w0 p xs) (hl : xs.length ≤ len) (ha : o + len ≤ arr.size)
    (hu : Upd b (.cells arr eb (0, 0)) (.cells (putA arr o (xs.map (Value.int .i64))) eb (0, 0)) G G') (hg : wants ops E g = some true) (hd : d < n)
    (h : TL P n w0 ops Q l ((d, .int .i64 xs.length) :: E) G') :
    TL P n w0 ops Q (⟨some d, .call { callee := .builtin .copy, args := #[x, y], argTypes := #[t1, t2] }, ty, pos, aft, g⟩ :: l) E G :=
  TL.step hg fun a w hs => by
    have hrun : ∃ w', (Builtin.copy_ #[t1, t2] ty #[.slice (some ⟨b, o, none⟩) len cap, .slice p xs.length cl]).run P w = .ok (.int .i64 xs.length) w' ∧ New w0 w' G' := by
      cases xs with
      | nil =>
        refine ⟨w, ?_, ?_⟩
        · have := run_copy_none (P := P) w t1 t2 ty e (some ⟨b, o, none⟩) p len cap 0 cl ht hsz (by simp)
          simpa [goInt] using this
        · have hu' : Upd b (.cells arr eb (0, 0)) (.cells arr eb (0, 0)) G G' := hu
          rw [hu'.self]
          exact hs.new
      | cons v vs =>
        obtain ⟨q, rfl, _⟩ := hi 0 (by simp)
        have hc : ∀ j, j < ((v :: vs).map (Value.int .i64)).length → ∃ u, w.cell? ⟨b, o + j, none⟩ = some u := fun j hj => ⟨_, hs.new.cell hu.mem (Array.getElem?_eq_getElem (by simp only [List.length_map, List.length_cons] at hj hl; omega))⟩
        refine ⟨_, ?_, New.setCells _ o arr w G G' hs.new hu⟩
        have := run_copy_cells (P := P) w t1 t2 ty e b o len cap q (v :: vs).length cl ((v :: vs).map (Value.int .i64)) ht hsz (by rw [List.length_map]; exact (Nat.min_eq_left hl).symm) (fun j u hj => by
            have hj2 : j < (v :: vs).length := by have := (List.getElem?_eq_some_iff.1 hj).1; simpa using this
            obtain ⟨q2, e2, h2⟩ := (hi.new hs.new) j hj2
            cases e2
            rw [Nat.mul_one] at h2
            rw [h2]
            rw [List.getElem?_map, List.getElem?_eq_getElem hj2] at hj
            simp only [Option.map_some, Option.some.injEq] at hj
            rw [← hj, show (v :: vs).getD j 0 = (v :: vs)[j] by rw [List.getD_eq_getElem?_getD, List.getElem?_eq_getElem hj2]; rfl])
          (fun j hj => by obtain ⟨u, hu2⟩ := hc j hj; rw [hu2]; rfl) (fun j _ => hs.new.frozen hu.mem) (fun u hu2 => by obtain ⟨i, _, rfl⟩ := List.mem_map.1 hu2; rfl)
        rw [this]
        simp [goInt]
    obtain ⟨w', hr, hN⟩ := hrun
    have hex : (execOp a.eval ⟨some d, .call { callee := .builtin .copy, args := #[x, y], argTypes := #[t1, t2] }, ty, pos, aft, g⟩).run P w = .ok (.value (.int .i64 xs.length)) w' := by
      simp only [execOp, resolve, List.map_toArray, List.map_cons, List.map_nil, hs.ev hx, hs.ev hy]
      simp [invoke, builtin, hr]
    unfold Oper.wp
    rw [hex]
    exact h _ _ ((hs.world hN).put hd _)
theorem TL.storeAggO {dd : Option Nat} {x y : Operand} {b o k : Nat} {t : Nat} {cs vs : List Value} {e : TypeId} {G' : Heap} (hx : evo E x = some (.pointer (some ⟨b, o, none⟩))) (hy : evo E y = some (.agg vs.toArray))
    (hsz : cellsN P t = some k) (hu : Upd b (.cells cs.toArray e (0, 0)) (.cells (cs.take o ++ vs ++ cs.drop (o + vs.length)).toArray e (0, 0)) G G') (hk : vs.length = k) (hk' : o + k ≤ cs.length) (hone' : vs.all Value.oneCell' = true)
    (hg : wants ops E g = some true) (hdd : dd = none) (h : TL P n w0 ops Q l E G') : TL P n w0 ops Q (⟨dd, .store t x y, ty, pos, aft, g⟩ :: l) E G :=
  TL.step hg fun a w hs => by
    subst hdd
    have hb := hs.new.here _ hu.mem
    simp only at hb
    unfold cellsN at hsz
    have hone : ∀ v ∈ vs, v.oneCell' = true := fun v hv => List.all_eq_true.1 hone' v hv
    have hst := run_storeCells_at (P := P) b o e vs 0 cs.toArray w hb (by simp; omega) hone
    simp only [Nat.add_zero] at hst
    have hr : (execOp a.eval ⟨none, .store t x y, ty, pos, aft, g⟩).run P w = .ok .skip (w.setRow b (cs.take o ++ vs ++ cs.drop (o + vs.length)).toArray) := by
      cases hi : P.info? t with
      | none => simp [hi] at hsz
      | some i =>
        simp [hi] at hsz
        simp only [execOp, hs.ev hx, hs.ev hy]
        simp [Instr.storeAt, Instr.sureAddr, storeVar, sizeOf, typeInfo, hi, hsz, Value.cells, hk, hst]
    unfold Oper.wp
    rw [hr]
    refine h _ _ (hs.world (hs.new.turn hu ?_ ?_ rfl rfl rfl ?_ rfl))
    · simp only [World.setRow, Array.getElem?_modify, if_true, hb, Option.map_some]
    · intro k hk
      simp only [World.setRow, Array.getElem?_modify]
      rw [if_neg (by omega)]
    · simp [World.setRow]
end
theorem arr_69 : arrOf Try.prog 69 = some (6, 3, 1) := by kernel_rfl
def Z12 : Array Value := intsA (List.replicate 12 0)
theorem fill_plan {l : List Int} (h : l.length = 6) : Instr.fill ([(0, 6), (6, 6)][·]?) #[(.int .i64 0), (.int .i64 0), (.int .i64 0), (.int .i64 0), (.int .i64 0), (.int .i64 0), (.int .i64 0), (.int .i64 0), (.int .i64 0), (.int .i64 0), (.int .i64 0), (.int .i64 0)] [(0, .agg (intsA l))] = some (intsA (l ++ List.replicate 6 0)) := by
  obtain ⟨a, b, c, d, e, f, rfl⟩ : ∃ a b c d e f, l = [a, b, c, d, e, f] := by
    match l, h with
    | [a, b, c, d, e, f], _ => exact ⟨a, b, c, d, e, f, rfl⟩
  kernel_rfl
theorem plan_put {a c : List Int} (ha : a.length = 6) (hc : c.length ≤ 6) : putA (intsA (a ++ List.replicate 6 0)) 6 (c.map (Value.int .i64)) = intsA (a ++ pad6 c) := by
  have h1 := putA_list (c.map (Value.int .i64)) 6 ((a ++ List.replicate 6 0).map (Value.int .i64)) (by simp [ha]; omega)
  refine Array.toList_inj.1 ?_
  show (putA ((a ++ List.replicate 6 0).map (Value.int .i64)).toArray 6 _).toList = _
  rw [h1]
  unfold intsA pad6
  simp only [List.length_map, List.map_append]
  rw [List.take_left' (by simp [ha]), List.drop_append, List.drop_of_length_le (by simp [ha]), List.nil_append, List.length_map, ha, Nat.add_sub_cancel_left, List.append_assoc, ← List.map_drop, List.drop_replicate]
theorem enc_take {a b : List Int} (ha : a.length = 6) {c : List Int} (hc : c.length = 6) : ((a ++ b).map (Value.int .i64)).take 0 ++ c.map (Value.int .i64) ++ ((a ++ b).map (Value.int .i64)).drop (0 + (c.map (Value.int .i64)).length) = (c ++ b).map (Value.int .i64) := by
  rw [List.take_zero, List.nil_append, List.length_map, hc, Nat.zero_add, List.map_append, List.drop_left' (by rw [List.length_map, ha]), List.map_append]
theorem enc_get {a b : List Int} (ha : a.length = 6) : ∀ j v, (a.map (Value.int .i64))[j]? = some v → ((a ++ b).map (Value.int .i64)).toArray[0 + j]? = some v := fun j v h => by
  have hj := (List.getElem?_eq_some_iff.1 h).1
  rw [List.getElem?_toArray, Nat.zero_add, List.map_append, List.getElem?_append_left hj]
  exact h
theorem app_at {a b : List Int} (ha : a.length = 6) (i : Nat) : (a ++ b).getD (6 + i) 0 = b.getD i 0 := by
  rw [List.getD_eq_getElem?_getD, List.getElem?_append_right (by omega), ha, Nat.add_sub_cancel_left, List.getD_eq_getElem?_getD]
theorem app_set {a b : List Int} (ha : a.length = 6) (i : Nat) (v : Int) : (a ++ b).set (6 + i) v = a ++ b.set i v := by
  rw [List.set_append_right _ _ (by omega), ha, Nat.add_sub_cancel_left]


set_option maxRecDepth 100000 in
set_option maxHeartbeats 2000000 in
theorem orderF_ok (w0 : World) (n : Int) (p : Option Addr) (cp : Nat) (ss : List St) (hr : StsAt w0 p ss) (s : List Int × List Int) (hV : InvO n ss s) (i : Nat) (hi : i < ss.length) (a : Addr) (ha0 : w0.cell? (a.add 0) = some (.int .i64 n)) (ha1 : w0.cell? (a.add 1) = some (.slice p ss.length cp)) :
    Calls Try.prog 80 #[.agg (intsA (encO s)), .int .i64 i, .pointer (some a)] w0 (Post (X := List Int) (fun xs => .tuple #[.agg (intsA xs), .bool (nxO ss s i).isSome]) (fun xs => xs.length = 12 ∧ ∀ s', nxO ss s i = some s' → xs = encO s') (fun _ => []) w0) := by
  obtain ⟨q1, hq1p, pa, pb, ca, cb, hq10, hq11, hta, htb⟩ := hr i (by omega)
  have hF := hV.vm.fits hi
  have hm6 := pad_len hV.vm.l6
  have hc6 : (pad6 s.2).length = 6 := pad_len (by rw [hV.len]; exact hV.vm.toVY.len)
  have hl6 := pad_len (doL_l6 (s := (ss.getD i default)) hV.vm.l6)
  have hib := hV.bd i
  have hi6 : i < 6 := by have := hV.vm.toVY.len; omega
  have hal : (aftO ss s i).length = 12 := by unfold aftO; rw [List.length_append, List.length_set, hl6, hc6]
  refine calls Try.func80 rfl (n := 39) rfl (by simp) ?_
  refine TC.seq ?_
  refine TC.region ?_
  refine TL.box rfl rfl (by decide) (fun b0 hb0 => ?_)
  refine TL.alloc Tb.zero_83 rfl (by decide) (fun b1 hb1 => ?_)
  refine TL.pure (PV.assign rfl) rfl (by decide) ?_
  refine TL.nil ?_
  refine TQ.thenC ?_
  refine TC.seq ?_
  refine TC.mixV [true, true, true, true, true, true, true, false, true, true, true, false, false, true] [(b0, Obj.cells (intsA (encO s)) 83 (0, 0))] 14 Tb.mixed rfl (by kernel_rfl) (by kernel_rfl) (by kernel_rfl) (by kernel_rfl) (by repeat (first | exact List.Sublist.slnil | exact List.nil_sublist _ | exact List.Sublist.refl _ | refine List.Sublist.cons_cons _ ?_ | refine List.Sublist.cons _ ?_ | refine List.Sublist.trans ?_ (List.sublist_append_right _ _))) ?_
  refine TV.virt 0 rfl rfl (by decide) rfl (by kernel_rfl) (SOK.pure (PV.fieldAddr rfl Tb.fo_83_0) rfl) ?_
  refine TV.virt 1 rfl rfl (by decide) rfl (by kernel_rfl) (SOK.pure (PV.loadAgg (off := 0) (vs := (pad6 s.1).map (Value.int .i64)) (cs := ((pad6 s.1 ++ pad6 s.2).map (Value.int .i64)).toArray) rfl Tb.agg_70 (by repeat (first | exact List.Mem.head _ | refine List.Mem.tail _ ?_ | refine List.mem_append_right _ ?_)) (map_len hm6) (enc_get hm6)) rfl) ?_
  refine TV.virt 2 rfl rfl (by decide) rfl (by kernel_rfl) (SOK.pure (PV.fieldAddrA rfl Tb.fo_24_1) rfl) ?_
  refine TV.virt 3 rfl rfl (by decide) rfl (by kernel_rfl) (SOK.pure (PV.loadOld rfl Tb.one_22 ha1) rfl) ?_
  refine TV.virt 4 rfl rfl (by decide) rfl (by kernel_rfl) (SOK.pure (PV.move rfl) rfl) ?_
  refine TV.virt 5 rfl rfl (by decide) rfl (by kernel_rfl) (SOK.pure (PV.indexA (j := i) rfl hq1p rfl Tb.elm_22 rfl hi) rfl) ?_
  refine TV.virt 6 rfl rfl (by decide) rfl (by kernel_rfl) (SOK.pure (PV.loadAggA rfl Tb.agg_63 rfl (two_cells hq10 hq11)) rfl) ?_
  refine TV.step [7, 11] (by kernel_rfl) (by decide) rfl ⟨⟨_, rfl, ?_⟩, ⟨_, rfl, ?_⟩, trivial⟩
  · skip
    refine TL.call rfl Tb.gofn_67 (fun a w hs => do_ok w s.1 pa pb ca cb (ss.getD i default) (hta.new hs.new) (htb.new hs.new) hF) rfl (by decide) (fun _ _ => ?_)
    refine TL.nil ?_
    refine TV.next (.inl (by repeat (first | exact List.Sublist.slnil | exact List.nil_sublist _ | exact List.Sublist.refl _ | refine List.Sublist.cons_cons _ ?_ | refine List.Sublist.cons _ ?_ | refine List.Sublist.trans ?_ (List.sublist_append_right _ _)))) ?_
    refine TV.virt 8 rfl rfl (by decide) rfl (by kernel_rfl) (SOK.pure (PV.move rfl) rfl) ?_
    refine TV.virt 9 rfl rfl (by decide) rfl (by kernel_rfl) (SOK.pure (PV.extract rfl rfl) rfl) ?_
    refine TV.virt 10 rfl rfl (by decide) rfl (by kernel_rfl) (SOK.pure (PV.extract rfl rfl) rfl) ?_
    refine TV.step [11] (by kernel_rfl) (by decide) rfl ⟨⟨_, rfl, ?_⟩, trivial⟩
    refine TL.alloc Tb.zero_70 rfl (by decide) (fun bt hbt => ?_)
    refine TL.nil ?_
    refine TV.next (.inl (by repeat (first | exact List.Sublist.slnil | exact List.nil_sublist _ | exact List.Sublist.refl _ | refine List.Sublist.cons_cons _ ?_ | refine List.Sublist.cons _ ?_ | refine List.Sublist.trans ?_ (List.sublist_append_right _ _)))) ?_
    refine TV.step [12] (by kernel_rfl) (by decide) rfl ⟨⟨_, rfl, ?_⟩, trivial⟩
    refine TL.storeAgg (vs := (pad6 (doL s.1 (ss.getD i default))).map (Value.int .i64)) rfl rfl Tb.cells_70 (by repeat (first | exact Upd.head _ | apply Upd.tail | apply Upd.appR)) (map_len hl6) rfl (ints_one _) rfl rfl ?_
    refine TL.nil ?_
    refine TV.next (.inl (by repeat (first | exact List.Sublist.slnil | exact List.nil_sublist _ | exact List.Sublist.refl _ | refine List.Sublist.cons_cons _ ?_ | refine List.Sublist.cons _ ?_ | refine List.Sublist.trans ?_ (List.sublist_append_right _ _)))) ?_
    refine TV.virt 13 rfl rfl (by decide) rfl (by kernel_rfl) (SOK.pure (PV.assign rfl) rfl) ?_
    refine TV.done (by kernel_rfl) ?_
    refine TQ.thenC ?_
    refine TC.seq ?_
    refine TC.region ?_
    refine TL.pure (PV.loadBox (cs := (pad6 (doL s.1 (ss.getD i default))).map (Value.int .i64)) rfl Tb.agg_70 (by repeat (first | exact List.Mem.head _ | refine List.Mem.tail _ ?_ | refine List.mem_append_right _ ?_)) (map_len hl6)) rfl (by decide) ?_
    refine TL.pure (PV.fieldAddr rfl Tb.fo_83_0) rfl (by decide) ?_
    refine TL.storeAggO (o := 0) (cs := (pad6 s.1 ++ pad6 s.2).map (Value.int .i64)) (vs := (pad6 (doL s.1 (ss.getD i default))).map (Value.int .i64)) rfl rfl Tb.cells_70 (by rw [enc_take hm6 hl6]; exact (by repeat (first | exact Upd.head _ | apply Upd.tail | apply Upd.appR))) (map_len hl6) (by rw [List.length_map, List.length_append, hm6, hc6]; decide) (ints_one _) rfl rfl ?_
    refine TL.nil ?_
    refine TQ.thenC ?_
    refine TC.seq ?_
    refine TC.region ?_
    refine TL.pure (PV.move rfl) rfl (by decide) ?_
    refine TL.pure (PV.fieldAddr rfl Tb.fo_83_1) rfl (by decide) ?_
    refine TL.pure (PV.indexArrO (o := 6) (j := i) rfl rfl arr_69 rfl hi6) rfl (by decide) ?_
    refine TL.pure (PV.loadIv (xs := pad6 (doL s.1 (ss.getD i default)) ++ pad6 s.2) (j := 6 + i) (v := s.2.getD i 0) rfl Tb.one_3 (by repeat (first | exact List.Mem.head _ | refine List.Mem.tail _ ?_ | refine List.mem_append_right _ ?_)) (by rw [List.length_append, hl6, hc6]; omega) (by rw [app_at hl6, pad_at])) rfl (by decide) ?_
    refine TL.pure (PV.sub rfl rfl (by omega)) rfl (by decide) ?_
    refine TL.pure (PV.fieldAddr rfl Tb.fo_83_1) rfl (by decide) ?_
    refine TL.pure (PV.indexArrO (o := 6) (j := i) rfl rfl arr_69 rfl hi6) rfl (by decide) ?_
    refine TL.storeIv (xs := pad6 (doL s.1 (ss.getD i default)) ++ pad6 s.2) (xs' := aftO ss s i) (j := 6 + i) rfl rfl Tb.cells_3 (app_set hl6 i _) (by repeat (first | exact Upd.head _ | apply Upd.tail | apply Upd.appR)) (by rw [List.length_append, hl6, hc6]; omega) rfl rfl ?_
    refine TL.nil ?_
    refine TQ.thenC ?_
    refine TC.seq ?_
    refine TC.mixV [true, true, true, true, true, true, true, true, true, true, false, true] [(b0, Obj.cells (intsA (aftO ss s i)) 83 (0, 0))] 12 Tb.mixed rfl (by kernel_rfl) (by kernel_rfl) (by kernel_rfl) (by kernel_rfl) (by repeat (first | exact List.Sublist.slnil | exact List.nil_sublist _ | exact List.Sublist.refl _ | refine List.Sublist.cons_cons _ ?_ | refine List.Sublist.cons _ ?_ | refine List.Sublist.trans ?_ (List.sublist_append_right _ _))) ?_
    refine TV.virt 0 rfl rfl (by decide) rfl (by kernel_rfl) (SOK.pure (PV.loadBox (cs := (aftO ss s i).map (Value.int .i64)) rfl Tb.agg_83 (by repeat (first | exact List.Mem.head _ | refine List.Mem.tail _ ?_ | refine List.mem_append_right _ ?_)) (map_len hal)) rfl) ?_
    refine TV.virt 1 rfl rfl (by decide) rfl (by kernel_rfl) (SOK.pure (PV.move rfl) rfl) ?_
    refine TV.virt 2 rfl rfl (by decide) rfl (by kernel_rfl) (SOK.pure (PV.eql rfl rfl) rfl) ?_
    refine TV.virt 3 rfl rfl (by decide) rfl (by kernel_rfl) (SOK.pure (PV.move rfl) rfl) ?_
    first | refine TV.splitD 32 rfl (fun b1 => ?_) (fun b1 => ?_) | refine TV.split 32 rfl (fun b1 => ?_) (fun b1 => ?_)
    · skip
      refine TV.virt 4 rfl rfl (by decide) rfl (by kernel_rfl) (SOK.pure (PV.move rfl) rfl) ?_
      refine TV.virt 5 rfl rfl (by decide) rfl (by kernel_rfl) (SOK.pure (PV.fieldAddr rfl Tb.fo_83_1) rfl) ?_
      refine TV.virt 6 rfl rfl (by decide) rfl (by kernel_rfl) (SOK.pure (PV.indexArrO (o := 6) (j := i) rfl rfl arr_69 rfl hi6) rfl) ?_
      refine TV.virt 7 rfl rfl (by decide) rfl (by kernel_rfl) (SOK.pure (PV.loadIv (xs := aftO ss s i) (j := 6 + i) (v := s.2.getD i 0 - 1) rfl Tb.one_3 (by repeat (first | exact List.Mem.head _ | refine List.Mem.tail _ ?_ | refine List.mem_append_right _ ?_)) (by rw [hal]; omega) (by unfold aftO; rw [app_at hl6, getD_set (by omega), if_pos rfl])) rfl) ?_
      refine TV.virt 8 rfl rfl (by decide) rfl (by kernel_rfl) (SOK.pure (PV.geq rfl rfl) rfl) ?_
      refine TV.virt 9 rfl rfl (by decide) rfl (by kernel_rfl) (SOK.pure (PV.pickT rfl rfl) rfl) ?_
      refine TV.step [10] (by kernel_rfl) (by decide) rfl ⟨⟨_, rfl, ?_⟩, trivial⟩
      refine TL.storeAgg (vs := (aftO ss s i).map (Value.int .i64)) rfl rfl Tb.cells_83 (by repeat (first | exact Upd.head _ | apply Upd.tail | apply Upd.appR)) (map_len hal) rfl (ints_one _) rfl rfl ?_
      refine TL.nil ?_
      refine TV.next (.inl (by repeat (first | exact List.Sublist.slnil | exact List.nil_sublist _ | exact List.Sublist.refl _ | refine List.Sublist.cons_cons _ ?_ | refine List.Sublist.cons _ ?_ | refine List.Sublist.trans ?_ (List.sublist_append_right _ _)))) ?_
      refine TV.virt 11 rfl rfl (by decide) rfl (by kernel_rfl) (SOK.pure (PV.assign rfl) rfl) ?_
      refine TV.done (by kernel_rfl) ?_
      refine TQ.thenC ?_
      refine TC.ret ?_
      refine TQ.retR rfl (Res.agg rfl Tb.agg_83 (by repeat (first | exact List.Mem.head _ | refine List.Mem.tail _ ?_ | refine List.mem_append_right _ ?_)) (map_len hal) (Res.tmp rfl Res.nil)) ?_
      simp only [tup]
      first | (refine ⟨aftO ss s i, ?_, ⟨hal, fun s' hs' => aft_some hV hi hs'⟩, List.nil_sublist _⟩; rw [nxO_bool]; first | rw [decide_eq_true b1, Bool.true_and, show decide (0 ≤ s.2.getD i 0 - 1) = decide (1 ≤ s.2.getD i 0) from decide_eq_decide.2 (by omega)]; rfl | rw [decide_eq_false b1, Bool.false_and]; rfl)
    · skip
      refine TV.virt 4 rfl rfl (by decide) rfl (by kernel_rfl) (SOK.skip rfl) ?_
      refine TV.virt 5 rfl rfl (by decide) rfl (by kernel_rfl) (SOK.skip rfl) ?_
      refine TV.virt 6 rfl rfl (by decide) rfl (by kernel_rfl) (SOK.skip rfl) ?_
      refine TV.virt 7 rfl rfl (by decide) rfl (by kernel_rfl) (SOK.skip rfl) ?_
      refine TV.virt 8 rfl rfl (by decide) rfl (by kernel_rfl) (SOK.skip rfl) ?_
      refine TV.virt 9 rfl rfl (by decide) rfl (by kernel_rfl) (SOK.pure (PV.pickF rfl rfl) rfl) ?_
      refine TV.step [10] (by kernel_rfl) (by decide) rfl ⟨⟨_, rfl, ?_⟩, trivial⟩
      refine TL.storeAgg (vs := (aftO ss s i).map (Value.int .i64)) rfl rfl Tb.cells_83 (by repeat (first | exact Upd.head _ | apply Upd.tail | apply Upd.appR)) (map_len hal) rfl (ints_one _) rfl rfl ?_
      refine TL.nil ?_
      refine TV.next (.inl (by repeat (first | exact List.Sublist.slnil | exact List.nil_sublist _ | exact List.Sublist.refl _ | refine List.Sublist.cons_cons _ ?_ | refine List.Sublist.cons _ ?_ | refine List.Sublist.trans ?_ (List.sublist_append_right _ _)))) ?_
      refine TV.virt 11 rfl rfl (by decide) rfl (by kernel_rfl) (SOK.pure (PV.assign rfl) rfl) ?_
      refine TV.done (by kernel_rfl) ?_
      refine TQ.thenC ?_
      refine TC.ret ?_
      refine TQ.retR rfl (Res.agg rfl Tb.agg_83 (by repeat (first | exact List.Mem.head _ | refine List.Mem.tail _ ?_ | refine List.mem_append_right _ ?_)) (map_len hal) (Res.tmp rfl Res.nil)) ?_
      simp only [tup]
      first | (refine ⟨aftO ss s i, ?_, ⟨hal, fun s' hs' => aft_some hV hi hs'⟩, List.nil_sublist _⟩; rw [nxO_bool]; first | rw [decide_eq_true b1, Bool.true_and, show decide (0 ≤ s.2.getD i 0 - 1) = decide (1 ≤ s.2.getD i 0) from decide_eq_decide.2 (by omega)]; rfl | rw [decide_eq_false b1, Bool.false_and]; rfl)
  · skip
    refine TL.alloc Tb.zero_70 rfl (by decide) (fun bt hbt => ?_)
    refine TL.nil ?_
    refine TV.next (.inl (by repeat (first | exact List.Sublist.slnil | exact List.nil_sublist _ | exact List.Sublist.refl _ | refine List.Sublist.cons_cons _ ?_ | refine List.Sublist.cons _ ?_ | refine List.Sublist.trans ?_ (List.sublist_append_right _ _)))) ?_
    refine TV.step [7] (by kernel_rfl) (by decide) rfl ⟨⟨_, rfl, ?_⟩, trivial⟩
    refine TL.call rfl Tb.gofn_67 (fun a w hs => do_ok w s.1 pa pb ca cb (ss.getD i default) (hta.new hs.new) (htb.new hs.new) hF) rfl (by decide) (fun _ _ => ?_)
    refine TL.nil ?_
    refine TV.next (.inl (by repeat (first | exact List.Sublist.slnil | exact List.nil_sublist _ | exact List.Sublist.refl _ | refine List.Sublist.cons_cons _ ?_ | refine List.Sublist.cons _ ?_ | refine List.Sublist.trans ?_ (List.sublist_append_right _ _)))) ?_
    refine TV.virt 8 rfl rfl (by decide) rfl (by kernel_rfl) (SOK.pure (PV.move rfl) rfl) ?_
    refine TV.virt 9 rfl rfl (by decide) rfl (by kernel_rfl) (SOK.pure (PV.extract rfl rfl) rfl) ?_
    refine TV.virt 10 rfl rfl (by decide) rfl (by kernel_rfl) (SOK.pure (PV.extract rfl rfl) rfl) ?_
    refine TV.step [12] (by kernel_rfl) (by decide) rfl ⟨⟨_, rfl, ?_⟩, trivial⟩
    refine TL.storeAgg (vs := (pad6 (doL s.1 (ss.getD i default))).map (Value.int .i64)) rfl rfl Tb.cells_70 (by repeat (first | exact Upd.head _ | apply Upd.tail | apply Upd.appR)) (map_len hl6) rfl (ints_one _) rfl rfl ?_
    refine TL.nil ?_
    refine TV.next (.inl (by repeat (first | exact List.Sublist.slnil | exact List.nil_sublist _ | exact List.Sublist.refl _ | refine List.Sublist.cons_cons _ ?_ | refine List.Sublist.cons _ ?_ | refine List.Sublist.trans ?_ (List.sublist_append_right _ _)))) ?_
    refine TV.virt 13 rfl rfl (by decide) rfl (by kernel_rfl) (SOK.pure (PV.assign rfl) rfl) ?_
    refine TV.done (by kernel_rfl) ?_
    refine TQ.thenC ?_
    refine TC.seq ?_
    refine TC.region ?_
    refine TL.pure (PV.loadBox (cs := (pad6 (doL s.1 (ss.getD i default))).map (Value.int .i64)) rfl Tb.agg_70 (by repeat (first | exact List.Mem.head _ | refine List.Mem.tail _ ?_ | refine List.mem_append_right _ ?_)) (map_len hl6)) rfl (by decide) ?_
    refine TL.pure (PV.fieldAddr rfl Tb.fo_83_0) rfl (by decide) ?_
    refine TL.storeAggO (o := 0) (cs := (pad6 s.1 ++ pad6 s.2).map (Value.int .i64)) (vs := (pad6 (doL s.1 (ss.getD i default))).map (Value.int .i64)) rfl rfl Tb.cells_70 (by rw [enc_take hm6 hl6]; exact (by repeat (first | exact Upd.head _ | apply Upd.tail | apply Upd.appR))) (map_len hl6) (by rw [List.length_map, List.length_append, hm6, hc6]; decide) (ints_one _) rfl rfl ?_
    refine TL.nil ?_
    refine TQ.thenC ?_
    refine TC.seq ?_
    refine TC.region ?_
    refine TL.pure (PV.move rfl) rfl (by decide) ?_
    refine TL.pure (PV.fieldAddr rfl Tb.fo_83_1) rfl (by decide) ?_
    refine TL.pure (PV.indexArrO (o := 6) (j := i) rfl rfl arr_69 rfl hi6) rfl (by decide) ?_
    refine TL.pure (PV.loadIv (xs := pad6 (doL s.1 (ss.getD i default)) ++ pad6 s.2) (j := 6 + i) (v := s.2.getD i 0) rfl Tb.one_3 (by repeat (first | exact List.Mem.head _ | refine List.Mem.tail _ ?_ | refine List.mem_append_right _ ?_)) (by rw [List.length_append, hl6, hc6]; omega) (by rw [app_at hl6, pad_at])) rfl (by decide) ?_
    refine TL.pure (PV.sub rfl rfl (by omega)) rfl (by decide) ?_
    refine TL.pure (PV.fieldAddr rfl Tb.fo_83_1) rfl (by decide) ?_
    refine TL.pure (PV.indexArrO (o := 6) (j := i) rfl rfl arr_69 rfl hi6) rfl (by decide) ?_
    refine TL.storeIv (xs := pad6 (doL s.1 (ss.getD i default)) ++ pad6 s.2) (xs' := aftO ss s i) (j := 6 + i) rfl rfl Tb.cells_3 (app_set hl6 i _) (by repeat (first | exact Upd.head _ | apply Upd.tail | apply Upd.appR)) (by rw [List.length_append, hl6, hc6]; omega) rfl rfl ?_
    refine TL.nil ?_
    refine TQ.thenC ?_
    refine TC.seq ?_
    refine TC.mixV [true, true, true, true, true, true, true, true, true, true, false, true] [(b0, Obj.cells (intsA (aftO ss s i)) 83 (0, 0))] 12 Tb.mixed rfl (by kernel_rfl) (by kernel_rfl) (by kernel_rfl) (by kernel_rfl) (by repeat (first | exact List.Sublist.slnil | exact List.nil_sublist _ | exact List.Sublist.refl _ | refine List.Sublist.cons_cons _ ?_ | refine List.Sublist.cons _ ?_ | refine List.Sublist.trans ?_ (List.sublist_append_right _ _))) ?_
    refine TV.virt 0 rfl rfl (by decide) rfl (by kernel_rfl) (SOK.pure (PV.loadBox (cs := (aftO ss s i).map (Value.int .i64)) rfl Tb.agg_83 (by repeat (first | exact List.Mem.head _ | refine List.Mem.tail _ ?_ | refine List.mem_append_right _ ?_)) (map_len hal)) rfl) ?_
    refine TV.virt 1 rfl rfl (by decide) rfl (by kernel_rfl) (SOK.pure (PV.move rfl) rfl) ?_
    refine TV.virt 2 rfl rfl (by decide) rfl (by kernel_rfl) (SOK.pure (PV.eql rfl rfl) rfl) ?_
    refine TV.virt 3 rfl rfl (by decide) rfl (by kernel_rfl) (SOK.pure (PV.move rfl) rfl) ?_
    first | refine TV.splitD 32 rfl (fun b1 => ?_) (fun b1 => ?_) | refine TV.split 32 rfl (fun b1 => ?_) (fun b1 => ?_)
    · skip
      refine TV.virt 4 rfl rfl (by decide) rfl (by kernel_rfl) (SOK.pure (PV.move rfl) rfl) ?_
      refine TV.virt 5 rfl rfl (by decide) rfl (by kernel_rfl) (SOK.pure (PV.fieldAddr rfl Tb.fo_83_1) rfl) ?_
      refine TV.virt 6 rfl rfl (by decide) rfl (by kernel_rfl) (SOK.pure (PV.indexArrO (o := 6) (j := i) rfl rfl arr_69 rfl hi6) rfl) ?_
      refine TV.virt 7 rfl rfl (by decide) rfl (by kernel_rfl) (SOK.pure (PV.loadIv (xs := aftO ss s i) (j := 6 + i) (v := s.2.getD i 0 - 1) rfl Tb.one_3 (by repeat (first | exact List.Mem.head _ | refine List.Mem.tail _ ?_ | refine List.mem_append_right _ ?_)) (by rw [hal]; omega) (by unfold aftO; rw [app_at hl6, getD_set (by omega), if_pos rfl])) rfl) ?_
      refine TV.virt 8 rfl rfl (by decide) rfl (by kernel_rfl) (SOK.pure (PV.geq rfl rfl) rfl) ?_
      refine TV.virt 9 rfl rfl (by decide) rfl (by kernel_rfl) (SOK.pure (PV.pickT rfl rfl) rfl) ?_
      refine TV.step [10] (by kernel_rfl) (by decide) rfl ⟨⟨_, rfl, ?_⟩, trivial⟩
      refine TL.storeAgg (vs := (aftO ss s i).map (Value.int .i64)) rfl rfl Tb.cells_83 (by repeat (first | exact Upd.head _ | apply Upd.tail | apply Upd.appR)) (map_len hal) rfl (ints_one _) rfl rfl ?_
      refine TL.nil ?_
      refine TV.next (.inl (by repeat (first | exact List.Sublist.slnil | exact List.nil_sublist _ | exact List.Sublist.refl _ | refine List.Sublist.cons_cons _ ?_ | refine List.Sublist.cons _ ?_ | refine List.Sublist.trans ?_ (List.sublist_append_right _ _)))) ?_
      refine TV.virt 11 rfl rfl (by decide) rfl (by kernel_rfl) (SOK.pure (PV.assign rfl) rfl) ?_
      refine TV.done (by kernel_rfl) ?_
      refine TQ.thenC ?_
      refine TC.ret ?_
      refine TQ.retR rfl (Res.agg rfl Tb.agg_83 (by repeat (first | exact List.Mem.head _ | refine List.Mem.tail _ ?_ | refine List.mem_append_right _ ?_)) (map_len hal) (Res.tmp rfl Res.nil)) ?_
      simp only [tup]
      first | (refine ⟨aftO ss s i, ?_, ⟨hal, fun s' hs' => aft_some hV hi hs'⟩, List.nil_sublist _⟩; rw [nxO_bool]; first | rw [decide_eq_true b1, Bool.true_and, show decide (0 ≤ s.2.getD i 0 - 1) = decide (1 ≤ s.2.getD i 0) from decide_eq_decide.2 (by omega)]; rfl | rw [decide_eq_false b1, Bool.false_and]; rfl)
    · skip
      refine TV.virt 4 rfl rfl (by decide) rfl (by kernel_rfl) (SOK.skip rfl) ?_
      refine TV.virt 5 rfl rfl (by decide) rfl (by kernel_rfl) (SOK.skip rfl) ?_
      refine TV.virt 6 rfl rfl (by decide) rfl (by kernel_rfl) (SOK.skip rfl) ?_
      refine TV.virt 7 rfl rfl (by decide) rfl (by kernel_rfl) (SOK.skip rfl) ?_
      refine TV.virt 8 rfl rfl (by decide) rfl (by kernel_rfl) (SOK.skip rfl) ?_
      refine TV.virt 9 rfl rfl (by decide) rfl (by kernel_rfl) (SOK.pure (PV.pickF rfl rfl) rfl) ?_
      refine TV.step [10] (by kernel_rfl) (by decide) rfl ⟨⟨_, rfl, ?_⟩, trivial⟩
      refine TL.storeAgg (vs := (aftO ss s i).map (Value.int .i64)) rfl rfl Tb.cells_83 (by repeat (first | exact Upd.head _ | apply Upd.tail | apply Upd.appR)) (map_len hal) rfl (ints_one _) rfl rfl ?_
      refine TL.nil ?_
      refine TV.next (.inl (by repeat (first | exact List.Sublist.slnil | exact List.nil_sublist _ | exact List.Sublist.refl _ | refine List.Sublist.cons_cons _ ?_ | refine List.Sublist.cons _ ?_ | refine List.Sublist.trans ?_ (List.sublist_append_right _ _)))) ?_
      refine TV.virt 11 rfl rfl (by decide) rfl (by kernel_rfl) (SOK.pure (PV.assign rfl) rfl) ?_
      refine TV.done (by kernel_rfl) ?_
      refine TQ.thenC ?_
      refine TC.ret ?_
      refine TQ.retR rfl (Res.agg rfl Tb.agg_83 (by repeat (first | exact List.Mem.head _ | refine List.Mem.tail _ ?_ | refine List.mem_append_right _ ?_)) (map_len hal) (Res.tmp rfl Res.nil)) ?_
      simp only [tup]
      first | (refine ⟨aftO ss s i, ?_, ⟨hal, fun s' hs' => aft_some hV hi hs'⟩, List.nil_sublist _⟩; rw [nxO_bool]; first | rw [decide_eq_true b1, Bool.true_and, show decide (0 ≤ s.2.getD i 0 - 1) = decide (1 ≤ s.2.getD i 0) from decide_eq_decide.2 (by omega)]; rfl | rw [decide_eq_false b1, Bool.false_and]; rfl)

end Go.Proofs.Ytkkipbkkijoneaa
