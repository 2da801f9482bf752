/- Lists of readings that a call makes: rules. -/
import Derived.Test.YtmmgcajegokkoaaZ1
import Derived.Lib.SliceRun
namespace Go.Proofs.Ytmmgcajegokkoaa
open Go.Sx Go.RowKit
def rdc (l : List Rd) : List Value := l.flatMap Rd.cells
theorem rdc_len : ∀ l : List Rd, (rdc l).length = l.length * 4
  | [] => rfl
  | a :: l => by
    have := rdc_len l
    simp [rdc] at this ⊢; omega
theorem rdc_get : ∀ {l : List Rd} {k i : Nat}, k < l.length → i < 4 → (rdc l)[k * 4 + i]? = (l.getD k default).cells[i]?
  | [], _, _, h, _ => by simp at h
  | a :: l, 0, i, _, hi => by
    simp only [rdc, List.flatMap_cons, Nat.zero_mul, Nat.zero_add]
    rw [List.getElem?_append_left (by simp; omega)]
    rfl
  | a :: l, k + 1, i, h, hi => by
    have := rdc_get (l := l) (k := k) (i := i) (by simpa using h) hi
    simp only [rdc, List.flatMap_cons] at this ⊢
    rw [List.getElem?_append_right (by simp; omega)]
    rw [show (k + 1) * 4 + i - a.cells.length = k * 4 + i by simp; omega, this]
    rfl
theorem rdc_app (l m : List Rd) : rdc (l ++ m) = rdc l ++ rdc m := by simp [rdc]
theorem rdc_one (l : List Rd) : ∀ v ∈ rdc l, v.oneCell' = true := fun v hv => by
  obtain ⟨r, _, h⟩ := List.mem_flatMap.1 hv
  simp at h
  rcases h with rfl | rfl | rfl | rfl <;> rfl
abbrev gbS (h : HD) (l : List Rd) : Heap := gblk h 61 (rdc l)
abbrev goS (h : HD) (l : List Rd) : Prop := gok h l.length 4 (rdc l)
theorem gval_one (h : HD) (K : Nat) : (gval h K).oneCell' = true := by cases h <;> rfl
theorem sv_one (n : Int) (h : HD) (K : Nat) : [Value.int .i64 n, gval h K].all Value.oneCell' = true := by cases h <;> rfl
theorem fill_sv (n : Int) (h : HD) (K : Nat) : Instr.fill ([(0, 1), (1, 1)][·]?) #[(Value.int .i64 0), .slice none 0 0] [(0, Value.int .i64 n), (1, gval h K)] = some #[.int .i64 n, gval h K] := by cases h <;> kernel_rfl
theorem RdsAt.s {w0 w : World} {G : Heap} {h : HD} {l : List Rd} (hn : New w0 w G) (hm : ∀ y ∈ gbS h l, y ∈ G) (ho : goS h l) : RdsAt w (gp h) l := by
  obtain _ | ⟨b, cap, sp⟩ := h
  · intro j hj
    have : l.length = 0 := ho.2
    omega
  · intro j hj
    refine ⟨⟨b, 0, none⟩, rfl, fun i v hv => ?_⟩
    have hi : i < 4 := (List.getElem?_eq_some_iff.1 hv).1
    have hl := rdc_len l
    rw [addr_add_add, add_off, Nat.zero_add]
    refine hn.cell (hm _ (.head _)) ?_
    rw [List.getElem?_toArray, List.getElem?_append_left (by omega), rdc_get hj hi]
    exact hv
theorem rds_nil {w : World} {l : List Rd} (h : RdsAt w none l) : l = [] := by
  cases l with
  | nil => rfl
  | cons x r => obtain ⟨q, hq, _⟩ := h 0 (by simp); cases hq
theorem rds_src {w : World} {p : Option Addr} {l : List Rd} {c K : Nat} (hK : l.length = K) (h : RdsAt w p l) : Src Try.prog 4 22 (.slice p K c) K (rdc l) w := by
  subst hK
  cases p with
  | none =>
    have h0 := rds_nil h
    subst h0
    exact Src.ofNil w Tb.sl_22 c
  | some q =>
    refine Src.ofSlice w Tb.sl_22 q l.length c (rdc l) (rdc_len l) (fun j u hu => ?_) (rdc_one l)
    have hl := rdc_len l
    have hj : j < (rdc l).length := (List.getElem?_eq_some_iff.1 hu).1
    have e : j = j / 4 * 4 + j % 4 := by omega
    rw [e, rdc_get (by omega) (by omega)] at hu
    obtain ⟨q', hq', hc⟩ := h (j / 4) (by omega)
    cases hq'
    have := hc (j % 4) u hu
    rw [addr_add_add, ← e] at this
    exact this
section
variable {n : Nat} {w0 : World} {E : Env} {G : Heap} {d : Nat} {ty : TypeId} {pos : String} {aft : Array Edge} {g : Option (Nat × Bool)} {ops : Array Oper} {Q : Exit → Act → World → Prop} {l : List Oper}
/-- s = append(s, xs...) of readings that lie in memory. -/
theorem TL.appendRS {s x : Operand} {h0 : HD} {ys xs : List Rd} {K0 K c : Nat} {p : Option Addr} {R : Heap} (hsv : evo E s = some (gval h0 K0)) (hx : evo E x = some (.slice p K c)) (hK0 : ys.length = K0) (hK : xs.length = K)
    (hat : ∀ w', New w0 w' G → RdsAt w' p xs)
    (hok : goS h0 ys) (hT : TakeH h0 61 (rdc ys) G R) (hb : K0 + K ≤ 1000000) (hg : wants ops E g = some true) (hd : d < n)
    (h : ∀ h', goS h' (ys ++ xs) → TL Try.prog n w0 ops Q l ((d, gval h' (K0 + K)) :: E) (gbS h' (ys ++ xs) ++ R)) :
    TL Try.prog n w0 ops Q (⟨some d, .call { callee := .builtin .append, args := #[s, x], argTypes := #[22, 22] }, ty, pos, aft, g⟩ :: l) E G := by
  subst hK0
  refine TL.append (news := rdc xs) (m := K) hsv hx Tb.sl_22 Tb.zi_61 rfl (by decide) hok hT (fun a w hs => rds_src hK (hat w hs.new)) (fun w' hN => rds_src hK (hat w' hN)) (by omega) (by omega) hg hd (fun h' hok' _ => ?_)
  have hh := h h'
  unfold goS gbS at hh
  simp only [rdc_app, List.length_append, hK] at hh
  exact hh hok'
/-- s = append(s, r) of one reading. -/
theorem TL.appendRd {s x : Operand} {h0 : HD} {ys : List Rd} {K0 b : Nat} {r : Rd} {R : Heap} (hsv : evo E s = some (gval h0 K0)) (hx : evo E x = some (.slice (some ⟨b, 0, none⟩) 1 1)) (hm : (b, Obj.cells r.cells.toArray 61 (0, 0)) ∈ G) (hK0 : ys.length = K0)
    (hok : goS h0 ys) (hT : TakeH h0 61 (rdc ys) G R) (hb : K0 ≤ 1000000) (hg : wants ops E g = some true) (hd : d < n)
    (h : ∀ h', goS h' (ys ++ [r]) → TL Try.prog n w0 ops Q l ((d, gval h' (K0 + 1)) :: E) (gbS h' (ys ++ [r]) ++ R)) :
    TL Try.prog n w0 ops Q (⟨some d, .call { callee := .builtin .append, args := #[s, x], argTypes := #[22, 22] }, ty, pos, aft, g⟩ :: l) E G := by
  subst hK0
  have hnews : ∀ (j : Nat) (w : Value), r.cells[j]? = some w → r.cells.toArray[j]? = some w := fun j w h => by simpa using h
  refine TL.append (news := r.cells) (m := 1) hsv hx Tb.sl_22 Tb.zi_61 rfl (by decide) hok hT (fun a w hs => src_blk Tb.sl_22 hm rfl hnews rfl hs.new) (fun w' hN => src_blk Tb.sl_22 hm rfl hnews rfl hN) (by omega) (by omega) hg hd (fun h' hok' _ => ?_)
  have hh := h h'
  unfold goS gbS at hh
  have e : rdc (ys ++ [r]) = rdc ys ++ r.cells := by simp [rdc]
  rw [e, List.length_append] at hh
  exact hh hok'
end
theorem nil22_guard (x y : Operand) (a : Option Addr) (k c : Nat) (w : World) : (eqGuard .eql 22 x y (.slice a k c) (.slice none 0 0)).run Try.prog w = .ok () w := by simp [eqGuard]
theorem nil22 (a : Option Addr) (k c : Nat) (w : World) : (binOp .eql 22 (.slice a k c) (.slice none 0 0)).run Try.prog w = .ok (.bool a.isNone) w := Go.Lib.run_eql_slice_nil w 22 61 a k c 0 0 Tb.sl_22
theorem eq61n_guard (x y : Operand) (r s : Rd) (w : World) : (eqGuard .neq 61 x y r.val s.val).run Try.prog w = .ok () w :=
  run_eqGuard_agg (w := w) .neq 61 x y _ _ (by kernel_rfl)
theorem eq61_fs : ((Try.prog.fieldsOf 61).toList.map fun f => (f.name != "_", f.type, f.offset)) = [(true, 3, 0), (true, 3, 1), (true, 3, 2), (true, 3, 3)] := by kernel_rfl
theorem eqF4 {P : Program} (w : World) (d : Nat) (a0 a1 a2 a3 c0 c1 c2 c3 : Int) (t : TypeId) {k : IntKind} (ht : P.underlying t = some (.int k)) (ha : (isAgg t).run P w = .ok false w) {fs : List Field} (h : (fs.map fun f => (f.name != "_", f.type, f.offset)) = [(true, t, 0), (true, t, 1), (true, t, 2), (true, t, 3)]) :
   (Op.eqFields (d + 1) #[.int .i64 a0, .int .i64 a1, .int .i64 a2, .int .i64 a3] #[.int .i64 c0, .int .i64 c1, .int .i64 c2, .int .i64 c3] fs).run P w = .ok (decide (a0 = c0 ∧ a1 = c1 ∧ a2 = c2 ∧ a3 = c3)) w := by
  rcases fs with _ | ⟨f, _ | ⟨g, _ | ⟨f3, _ | ⟨f4, _ | ⟨f5, fs⟩⟩⟩⟩⟩ <;> simp at h
  obtain ⟨⟨h1, h2, h3⟩, ⟨h4, h5, h6⟩, ⟨h7, h8, h9⟩, h10, h11, h12⟩ := h
  by_cases e0 : a0 = c0
  · by_cases e1 : a1 = c1
    · by_cases e2 : a2 = c2
      · by_cases e3 : a3 = c3 <;> simp [Op.eqFields, h1, h2, h3, h4, h5, h6, h7, h8, h9, h10, h11, h12, part, ha, run_equalIn_int w _ _ _ _ _ _ ht, e0, e1, e2, e3]
      · simp [Op.eqFields, h1, h2, h3, h4, h5, h6, h7, h8, h9, part, ha, run_equalIn_int w _ _ _ _ _ _ ht, e0, e1, e2]
    · simp [Op.eqFields, h1, h2, h3, h4, h5, h6, part, ha, run_equalIn_int w _ _ _ _ _ _ ht, e0, e1]
  · simp [Op.eqFields, h1, h2, h3, part, ha, run_equalIn_int w _ _ _ _ _ _ ht, e0]
theorem eq61n (r s : Rd) (w : World) : (binOp .neq 61 r.val s.val).run Try.prog w = .ok (.bool (decide (¬ r = s))) w := by
  rw [run_neq_struct, show (10000 : Nat) = 9998 + 1 + 1 from rfl, run_equalIn_agg w _ _ _ _ (by kernel_rfl) (by kernel_rfl), eqF4 w _ _ _ _ _ _ _ _ _ 3 (k := .i64) (by kernel_rfl) (by simp [isAgg, run_underlying (show Try.prog.underlying 3 = some (.int .i64) by kernel_rfl)]) eq61_fs]
  have e : (r.fr = s.fr ∧ r.to = s.to ∧ r.rise = s.rise ∧ r.wt = s.wt) ↔ r = s := by
    constructor
    · obtain ⟨a, b, c, d⟩ := r
      obtain ⟨a', b', c', d'⟩ := s
      rintro ⟨h1, h2, h3, h4⟩
      simp at h1 h2 h3 h4
      subst h1; subst h2; subst h3; subst h4; rfl
    · rintro rfl; exact ⟨rfl, rfl, rfl, rfl⟩
  simp [e]
end Go.Proofs.Ytmmgcajegokkoaa
