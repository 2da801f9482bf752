/- An element taken out of a slice in its place: contracts. -/
import Derived.Test.YtghlkndanpegbaaBx
import Derived.Test.YtghlkndanpegbaaBq
set_option linter.unusedVariables false
set_option linter.unusedSimpArgs false
namespace Go.Proofs.Ytghlkndanpegbaa
open Go.Sx Go.RowKit Go.Sand Go.Tp

theorem del_c1 {ys sp : List Value} {k : Nat} (hk : k < ys.length) :
    (ys ++ sp).take (k * 1) ++ ys.drop (k + 1) ++ (ys ++ sp).drop (k * 1 + (ys.drop (k + 1)).length) = ys.eraseIdx k ++ (ys.drop (ys.length - 1) ++ sp) := by
  rw [List.length_drop, show k * 1 + (ys.length - (k + 1)) = ys.length - 1 by omega, Nat.mul_one, List.take_append_of_le_length (by omega), List.drop_append_of_le_length (by omega), ← List.eraseIdx_eq_take_drop_succ]
theorem del_c2 {A B sp zs : List Value} {m : Nat} (hA : A.length = m) (hB : B.length = zs.length) : (A ++ (B ++ sp)).take m ++ zs ++ (A ++ (B ++ sp)).drop (m + zs.length) = A ++ (zs ++ sp) := by
  subst hA
  rw [List.take_left, ← List.drop_drop, List.drop_left, ← hB, List.drop_left, List.append_assoc]
theorem del_src {P : Program} {t e' : TypeId} (ht : P.underlying t = some (.slice e')) {w0 w : World} {G : Heap} {b cap c k : Nat} {e : TypeId} {ys sp : List Value} (hN : New w0 w G) (hm : (b, Obj.cells (ys ++ sp).toArray e (0, 0)) ∈ G) (ho : gok (some (b, cap, sp)) ys.length 1 ys) (hk : k < ys.length) (h1 : ys.all Value.oneCell' = true) : Src P 1 t (.slice (cutA (some ⟨b, 0, none⟩) cap (k + 1) 1) (ys.length - (k + 1)) c) (ys.length - (k + 1)) (ys.drop (k + 1)) w := by
  have hcap : ys.length ≤ cap := ho.2.2
  have h2 : ∀ v ∈ ys.drop (k + 1), v.oneCell' = true := fun v hv => List.all_eq_true.1 h1 v (List.mem_of_mem_drop hv)
  unfold cutA
  by_cases h : cap = k + 1
  · rw [if_pos h]
    refine Src.ofSlice w ht _ _ _ _ (by simp) (fun j u hu => ?_) h2
    have := (List.getElem?_eq_some_iff.1 hu).1
    rw [List.length_drop] at this
    omega
  · rw [if_neg h]
    refine Src.ofSlice w ht _ _ _ _ (by simp) (fun j u hu => ?_) h2
    have hj := (List.getElem?_eq_some_iff.1 hu).1
    rw [List.length_drop] at hj
    show w.cell? (((⟨b, 0, none⟩ : Addr).add ((k + 1) * 1)).add j) = some u
    have ea : (((⟨b, 0, none⟩ : Addr).add ((k + 1) * 1)).add j) = ⟨b, 0 + (k + 1) * 1 + j, none⟩ := by rw [Addr.add_lit, Addr.add_lit]
    rw [ea]
    refine hN.cell hm ?_
    rw [List.getElem?_drop] at hu
    rw [show 0 + (k + 1) * 1 + j = k + 1 + j by omega]
    have : (ys ++ sp)[k + 1 + j]? = some u := by rw [List.getElem?_append_left (by omega)]; exact hu
    simpa using this
theorem era_len {ys : List Value} {k : Nat} (hk : k < ys.length) : (ys.eraseIdx k).length = ys.length - 1 := by rw [List.length_eraseIdx, if_pos hk]


set_option maxRecDepth 100000 in
set_option maxHeartbeats 1000000 in
theorem delI_ok (w0 w : World) (b cap : Nat) (sp ys : List Value) (hl : ys.length ≤ 1000) (h1 : ys.all Value.oneCell' = true) (k : Nat) (hk : k < ys.length) (R : Heap) (ho : gok (some (b, cap, sp)) ys.length 1 ys) (hN : New w0 w ((b, Obj.cells (ys ++ sp).toArray 3 (0, 0)) :: R)) :
    Calls Try.prog 85 #[.slice (some ⟨b, 0, none⟩) ys.length cap, .int .i64 k, .int .i64 (k + 1)] w (Post (X := Unit) (fun _ => .slice (some ⟨b, 0, none⟩) (ys.length - 1) cap) (fun _ => True) (fun _ => (b, .cells (ys.eraseIdx k ++ ([Value.int .i64 0] ++ sp)).toArray 3 (0, 0)) :: R) w0) := by
  have hcap := ho.2.2
  have hcl := ho.2.1
  have hdl : (ys.drop (k + 1)).length = ys.length - (k + 1) := by simp
  refine callsM hN Try.func85 rfl (n := 33) rfl (by simp) ?_
  refine TC.seq ?_
  refine TC.region ?_
  refine TL.pure (PV.assign rfl) rfl (by decide) ?_
  refine TL.nil ?_
  refine TQ.thenC ?_
  refine TC.seq ?_
  refine TC.region ?_
  refine TL.pure (PV.move rfl) rfl (by decide) ?_
  refine TL.pure (PV.move rfl) rfl (by decide) ?_
  refine TL.pure (PV.move rfl) rfl (by decide) ?_
  refine TL.pure (PV.move rfl) rfl (by decide) ?_
  refine TL.pure (PV.len rfl Tb.sl_22) rfl (by decide) ?_
  refine TL.pure (PV.slice3 (l := k) (h := k + 1) (m := ys.length) rfl rfl rfl rfl Tb.elm_22 rfl rfl rfl (by omega) (by omega) (by omega)) rfl (by decide) ?_
  refine TL.nil ?_
  refine TQ.thenC ?_
  refine TC.seq ?_
  refine TC.seq ?_
  refine TC.region ?_
  refine TL.pure (PV.move rfl) rfl (by decide) ?_
  refine TL.pure (PV.move rfl) rfl (by decide) ?_
  refine TL.pure (PV.eql rfl rfl) rfl (by decide) ?_
  refine TL.nil ?_
  refine TQ.thenC ?_
  first | refine TC.condD rfl (fun h0 => ?_) (fun h0 => ?_) | refine TC.cond rfl (fun h0 => ?_) (fun h0 => ?_)
  · skip
    exfalso; omega
  · skip
    refine TC.skip ?_
    refine TQ.thenC ?_
    refine TC.seq ?_
    refine TC.region ?_
    refine TL.pure (PV.move rfl) rfl (by decide) ?_
    refine TL.pure (PV.len rfl Tb.sl_22) rfl (by decide) ?_
    refine TL.pure (PV.assign rfl) rfl (by decide) ?_
    refine TL.nil ?_
    refine TQ.thenC ?_
    refine TC.seq ?_
    refine TC.draw 6 Tb.mixed (by kernel_rfl) ?_
    simp only [List.take_succ_cons, List.take_zero, List.drop_succ_cons, List.drop_zero]
    refine TS.pure (PV.move rfl) rfl (by decide) ?_
    refine TS.pure (PV.move rfl) rfl (by decide) ?_
    refine TS.pure (PV.sliceHb rfl rfl Tb.elm_22 rfl (by omega)) rfl (by decide) ?_
    refine TS.pure (PV.move rfl) rfl (by decide) ?_
    refine TS.pure (PV.move rfl) rfl (by decide) ?_
    refine TS.pure (PV.sliceL (l := k + 1) rfl rfl Tb.elm_22 rfl (by omega)) rfl (by decide) ?_
    refine TS.nil ?_
    refine TL.appendRoom (cs := ys ++ sp) (news := ys.drop (k + 1)) (m := ys.length - (k + 1)) rfl rfl Tb.sl_22 Tb.zi_3 (by repeat (first | exact Upd.head _ | apply Upd.tail | apply Upd.appR)) (by simp only [List.length_append]; omega) (by omega) (fun w' hN' => del_src Tb.sl_22 hN' (by repeat (first | exact List.Mem.head _ | refine List.Mem.tail _ ?_ | refine List.mem_append_right _ ?_)) ho hk h1) rfl (by decide) ?_
    rw [del_c1 hk]
    refine TL.pure (PV.assign rfl) rfl (by decide) ?_
    refine TL.nil ?_
    refine TQ.thenC ?_
    refine TC.seq ?_
    refine TC.region ?_
    refine TL.pure (PV.move rfl) rfl (by decide) ?_
    refine TL.pure (PV.move rfl) rfl (by decide) ?_
    refine TL.pure (PV.len rfl Tb.sl_22) rfl (by decide) ?_
    refine TL.pure (PV.move rfl) rfl (by decide) ?_
    refine TL.pure (PV.sliceLHb (l := ys.length - 1) (h := ys.length) rfl rfl rfl Tb.elm_22 (by omega) rfl (by omega) (by omega)) rfl (by decide) ?_
    refine TL.clear1 (cs := ys.eraseIdx k ++ (ys.drop (ys.length - 1) ++ sp)) (zs := [Value.int .i64 0]) rfl (by omega) Tb.sl_22 Tb.zi_3 (by kernel_rfl) rfl (by repeat (first | exact Upd.head _ | apply Upd.tail | apply Upd.appR)) (by have h4 := era_len hk; simp only [List.length_append, List.length_drop, List.length_cons, List.length_nil]; omega) rfl rfl ?_
    rw [show (ys.length - 1) * 1 = ys.length - 1 by omega, del_c2 (zs := [Value.int .i64 0]) (era_len hk) (by simp only [List.length_drop, List.length_cons, List.length_nil]; omega)]
    refine TL.nil ?_
    refine TQ.thenC ?_
    refine TC.seq ?_
    refine TC.region ?_
    refine TL.pure (PV.move rfl) rfl (by decide) ?_
    refine TL.pure (PV.assign rfl) rfl (by decide) ?_
    refine TL.nil ?_
    refine TQ.thenC ?_
    refine TC.ret ?_
    refine TQ.retE1 rfl rfl ?_
    exact ⟨(), by rw [show k + (ys.length - (k + 1)) = ys.length - 1 by omega], trivial, List.Sublist.refl _⟩

set_option maxRecDepth 100000 in
set_option maxHeartbeats 1000000 in
theorem delR_ok (w0 w : World) (b cap : Nat) (sp ys : List Value) (hl : ys.length ≤ 1000) (h1 : ys.all Value.oneCell' = true) (k : Nat) (hk : k < ys.length) (R : Heap) (ho : gok (some (b, cap, sp)) ys.length 1 ys) (hN : New w0 w ((b, Obj.cells (ys ++ sp).toArray 22 (0, 0)) :: R)) :
    Calls Try.prog 86 #[.slice (some ⟨b, 0, none⟩) ys.length cap, .int .i64 k, .int .i64 (k + 1)] w (Post (X := Unit) (fun _ => .slice (some ⟨b, 0, none⟩) (ys.length - 1) cap) (fun _ => True) (fun _ => (b, .cells (ys.eraseIdx k ++ ([Value.slice none 0 0] ++ sp)).toArray 22 (0, 0)) :: R) w0) := by
  have hcap := ho.2.2
  have hcl := ho.2.1
  have hdl : (ys.drop (k + 1)).length = ys.length - (k + 1) := by simp
  refine callsM hN Try.func86 rfl (n := 33) rfl (by simp) ?_
  refine TC.seq ?_
  refine TC.region ?_
  refine TL.pure (PV.assign rfl) rfl (by decide) ?_
  refine TL.nil ?_
  refine TQ.thenC ?_
  refine TC.seq ?_
  refine TC.region ?_
  refine TL.pure (PV.move rfl) rfl (by decide) ?_
  refine TL.pure (PV.move rfl) rfl (by decide) ?_
  refine TL.pure (PV.move rfl) rfl (by decide) ?_
  refine TL.pure (PV.move rfl) rfl (by decide) ?_
  refine TL.pure (PV.len rfl Tb.sl_23) rfl (by decide) ?_
  refine TL.pure (PV.slice3 (l := k) (h := k + 1) (m := ys.length) rfl rfl rfl rfl Tb.elm_23 rfl rfl rfl (by omega) (by omega) (by omega)) rfl (by decide) ?_
  refine TL.nil ?_
  refine TQ.thenC ?_
  refine TC.seq ?_
  refine TC.seq ?_
  refine TC.region ?_
  refine TL.pure (PV.move rfl) rfl (by decide) ?_
  refine TL.pure (PV.move rfl) rfl (by decide) ?_
  refine TL.pure (PV.eql rfl rfl) rfl (by decide) ?_
  refine TL.nil ?_
  refine TQ.thenC ?_
  first | refine TC.condD rfl (fun h0 => ?_) (fun h0 => ?_) | refine TC.cond rfl (fun h0 => ?_) (fun h0 => ?_)
  · skip
    exfalso; omega
  · skip
    refine TC.skip ?_
    refine TQ.thenC ?_
    refine TC.seq ?_
    refine TC.region ?_
    refine TL.pure (PV.move rfl) rfl (by decide) ?_
    refine TL.pure (PV.len rfl Tb.sl_23) rfl (by decide) ?_
    refine TL.pure (PV.assign rfl) rfl (by decide) ?_
    refine TL.nil ?_
    refine TQ.thenC ?_
    refine TC.seq ?_
    refine TC.draw 6 Tb.mixed (by kernel_rfl) ?_
    simp only [List.take_succ_cons, List.take_zero, List.drop_succ_cons, List.drop_zero]
    refine TS.pure (PV.move rfl) rfl (by decide) ?_
    refine TS.pure (PV.move rfl) rfl (by decide) ?_
    refine TS.pure (PV.sliceHb rfl rfl Tb.elm_23 rfl (by omega)) rfl (by decide) ?_
    refine TS.pure (PV.move rfl) rfl (by decide) ?_
    refine TS.pure (PV.move rfl) rfl (by decide) ?_
    refine TS.pure (PV.sliceL (l := k + 1) rfl rfl Tb.elm_23 rfl (by omega)) rfl (by decide) ?_
    refine TS.nil ?_
    refine TL.appendRoom (cs := ys ++ sp) (news := ys.drop (k + 1)) (m := ys.length - (k + 1)) rfl rfl Tb.sl_23 Tb.zi_22 (by repeat (first | exact Upd.head _ | apply Upd.tail | apply Upd.appR)) (by simp only [List.length_append]; omega) (by omega) (fun w' hN' => del_src Tb.sl_23 hN' (by repeat (first | exact List.Mem.head _ | refine List.Mem.tail _ ?_ | refine List.mem_append_right _ ?_)) ho hk h1) rfl (by decide) ?_
    rw [del_c1 hk]
    refine TL.pure (PV.assign rfl) rfl (by decide) ?_
    refine TL.nil ?_
    refine TQ.thenC ?_
    refine TC.seq ?_
    refine TC.region ?_
    refine TL.pure (PV.move rfl) rfl (by decide) ?_
    refine TL.pure (PV.move rfl) rfl (by decide) ?_
    refine TL.pure (PV.len rfl Tb.sl_23) rfl (by decide) ?_
    refine TL.pure (PV.move rfl) rfl (by decide) ?_
    refine TL.pure (PV.sliceLHb (l := ys.length - 1) (h := ys.length) rfl rfl rfl Tb.elm_23 (by omega) rfl (by omega) (by omega)) rfl (by decide) ?_
    refine TL.clear1 (cs := ys.eraseIdx k ++ (ys.drop (ys.length - 1) ++ sp)) (zs := [Value.slice none 0 0]) rfl (by omega) Tb.sl_23 Tb.zi_22 (by kernel_rfl) rfl (by repeat (first | exact Upd.head _ | apply Upd.tail | apply Upd.appR)) (by have h4 := era_len hk; simp only [List.length_append, List.length_drop, List.length_cons, List.length_nil]; omega) rfl rfl ?_
    rw [show (ys.length - 1) * 1 = ys.length - 1 by omega, del_c2 (zs := [Value.slice none 0 0]) (era_len hk) (by simp only [List.length_drop, List.length_cons, List.length_nil]; omega)]
    refine TL.nil ?_
    refine TQ.thenC ?_
    refine TC.seq ?_
    refine TC.region ?_
    refine TL.pure (PV.move rfl) rfl (by decide) ?_
    refine TL.pure (PV.assign rfl) rfl (by decide) ?_
    refine TL.nil ?_
    refine TQ.thenC ?_
    refine TC.ret ?_
    refine TQ.retE1 rfl rfl ?_
    exact ⟨(), by rw [show k + (ys.length - (k + 1)) = ys.length - 1 by omega], trivial, List.Sublist.refl _⟩

theorem TL.callDel {n : Nat} {w0 : World} {E : Env} {G : Heap} {ops : Array Oper} {Q : Exit → Act → World → Prop} {l : List Oper} {ty : TypeId} {pos : String} {aft : Array Edge} {g : Option (Nat × Bool)} {d b cap K k : Nat} {xs : List Operand} {ats : Array TypeId} {sp ys : List Value} {R : Heap}
    (hx : evs E xs = some [.slice (some ⟨b, 0, none⟩) K cap, .int .i64 k, .int .i64 (k + 1)]) (hK : ys.length = K) (hl : K ≤ 1000) (h1 : ys.all Value.oneCell' = true) (hk : k < K) (ho : gok (some (b, cap, sp)) K 1 ys) (hT : Take b (.cells (ys ++ sp).toArray 3 (0, 0)) G R)
    (hg : wants ops E g = some true) (hd : d < n) (h : TL Try.prog n w0 ops Q l ((d, .slice (some ⟨b, 0, none⟩) (K - 1) cap) :: E) ((b, .cells (ys.eraseIdx k ++ ([Value.int .i64 0] ++ sp)).toArray 3 (0, 0)) :: R)) :
    TL Try.prog n w0 ops Q (⟨some d, .call { callee := .value (.func 85), args := xs.toArray, argTypes := ats }, ty, pos, aft, g⟩ :: l) E G := by
  subst hK
  exact TL.callW (fun _ : Unit => .slice (some ⟨b, 0, none⟩) (ys.length - 1) cap) (fun _ => True) (fun _ => (b, .cells (ys.eraseIdx k ++ ([Value.int .i64 0] ++ sp)).toArray 3 (0, 0)) :: R) hx Tb.gofn_85
    (fun a w hs => delI_ok w0 w b cap sp ys hl h1 k hk R ho (hs.new.perm hT.perm)) hg hd (fun _ _ => h)
theorem TL.callDelR {n : Nat} {w0 : World} {E : Env} {G : Heap} {ops : Array Oper} {Q : Exit → Act → World → Prop} {l : List Oper} {ty : TypeId} {pos : String} {aft : Array Edge} {g : Option (Nat × Bool)} {d b cap K k : Nat} {xs : List Operand} {ats : Array TypeId} {sp ys : List Value} {R : Heap}
    (hx : evs E xs = some [.slice (some ⟨b, 0, none⟩) K cap, .int .i64 k, .int .i64 (k + 1)]) (hK : ys.length = K) (hl : K ≤ 1000) (h1 : ys.all Value.oneCell' = true) (hk : k < K) (ho : gok (some (b, cap, sp)) K 1 ys) (hT : Take b (.cells (ys ++ sp).toArray 22 (0, 0)) G R)
    (hg : wants ops E g = some true) (hd : d < n) (h : TL Try.prog n w0 ops Q l ((d, .slice (some ⟨b, 0, none⟩) (K - 1) cap) :: E) ((b, .cells (ys.eraseIdx k ++ ([Value.slice none 0 0] ++ sp)).toArray 22 (0, 0)) :: R)) :
    TL Try.prog n w0 ops Q (⟨some d, .call { callee := .value (.func 86), args := xs.toArray, argTypes := ats }, ty, pos, aft, g⟩ :: l) E G := by
  subst hK
  exact TL.callW (fun _ : Unit => .slice (some ⟨b, 0, none⟩) (ys.length - 1) cap) (fun _ => True) (fun _ => (b, .cells (ys.eraseIdx k ++ ([Value.slice none 0 0] ++ sp)).toArray 22 (0, 0)) :: R) hx Tb.gofn_86
    (fun a w hs => delR_ok w0 w b cap sp ys hl h1 k hk R ho (hs.new.perm hT.perm)) hg hd (fun _ _ => h)

end Go.Proofs.Ytghlkndanpegbaa
