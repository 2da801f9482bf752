/- Sz -/
import Derived.Test.YtbnjmkidbfmomaaGreatDoorV02
set_option linter.unusedVariables false
set_option linter.unusedSimpArgs false
set_option maxRecDepth 100000
namespace Go.Sx
open Go.RowKit
def isSt (st : List Bool) (i : Nat) : Bool := st.getD i false
def QF : Exit → Act → World → Prop := fun _ _ _ => False
def bindsOn (o : Oper) (j : Nat) : Bool := o.after.toList.any fun e => Region.binds .any e && e.on == j
def needJ (st : List Bool) (m : Nat) (o : Oper) : Bool := (List.range m).any fun j => isSt st j && !bindsOn o j
def JOK (w0 : World) (GJ : Heap) (w : World) : Prop := New w0 w GJ
def wpX (P : Program) (l : List Oper) (st : List Bool) (w0 : World) (GJ : Heap) (Q : Exit → Act → World → Prop) : Nat → Array Bool → Act → World → Prop
  | 0, listed, a, w => Region.ready .any l.toArray listed = [] ∧ Q .normal a w
  | fuel + 1, listed, a, w => (Region.ready .any l.toArray listed = [] → Q .normal a w) ∧ ∀ i ∈ Region.ready .any l.toArray listed, ∀ o, l[i]? = some o →
      wpList P l.toArray (Exit.then (fun a' w' => a'.defers = [] ∧ (needJ st l.length o = true → JOK w0 GJ w') ∧ wpX P l st w0 GJ Q fuel (listed.setIfInBounds i true) a' w') QF) [o] a w
section
variable {P : Program} {n : Nat} {w0 : World} {E : Env} {G GJ : Heap} {a : Act} {w : World} {Q : Exit → Act → World → Prop} {l : List Oper} {st : List Bool}
def NX (P : Program) (w0 : World) (l : List Oper) (st : List Bool) (GJ : Heap) (Q : Exit → Act → World → Prop) (fuel : Nat) (listed : Array Bool) (o : Oper) (a : Act) (w : World) : Prop :=
  a.defers = [] ∧ (needJ st l.length o = true → JOK w0 GJ w) ∧ wpX P l st w0 GJ Q fuel listed a w
def TX (P : Program) (n : Nat) (w0 : World) (l : List Oper) (st : List Bool) (GJ : Heap) (Q : Exit → Act → World → Prop) (fuel : Nat) (listed : List Bool) (E : Env) (G : Heap) : Prop :=
  ∀ a w, S n w0 E G a w → wpX P l st w0 GJ Q fuel listed.toArray a w
def AllX (P : Program) (n : Nat) (w0 : World) (l : List Oper) (st : List Bool) (GJ : Heap) (Q : Exit → Act → World → Prop) (fuel : Nat) (listed : List Bool) (E : Env) (G : Heap) : List Nat → Prop
  | [] => True
  | i :: r => (∃ o, l[i]? = some o ∧ TL P n w0 l.toArray (Exit.then (NX P w0 l st GJ Q fuel (listed.set i true).toArray o) QF) [o] E G) ∧ AllX P n w0 l st GJ Q fuel listed E G r
theorem AllX.get {fuel : Nat} {listed : List Bool} : ∀ {is : List Nat}, AllX P n w0 l st GJ Q fuel listed E G is → ∀ i ∈ is, ∃ o, l[i]? = some o ∧ TL P n w0 l.toArray (Exit.then (NX P w0 l st GJ Q fuel (listed.set i true).toArray o) QF) [o] E G
  | [], _, i, hi => by cases hi
  | j :: r, h, i, hi => by
    rcases List.mem_cons.1 hi with rfl | hi
    · exact h.1
    · exact AllX.get h.2 i hi
theorem TX.step {fuel : Nat} {listed : List Bool} (is : List Nat) (hr : Region.ready .any l.toArray listed.toArray = is) (hne : is ≠ []) (h : AllX P n w0 l st GJ Q fuel listed E G is) : TX P n w0 l st GJ Q (fuel + 1) listed E G := by
  intro a w hs
  refine ⟨fun h0 => absurd (hr.symm.trans h0) hne, fun i hi o ho => ?_⟩
  rw [hr] at hi
  obtain ⟨o', ho', hT⟩ := h.get i hi
  rw [ho] at ho'
  cases ho'
  have e : listed.toArray.setIfInBounds i true = (listed.set i true).toArray := by simp
  rw [e]
  exact hT a w hs
theorem TX.done {fuel : Nat} {listed : List Bool} (hr : Region.ready .any l.toArray listed.toArray = []) (h : TQ n w0 (Q .normal) E G) : TX P n w0 l st GJ Q fuel listed E G := by
  intro a w hs
  cases fuel with
  | zero => exact ⟨hr, h a w hs⟩
  | succ k => exact ⟨fun _ => h a w hs, fun i hi => by rw [hr] at hi; cases hi⟩
theorem TX.next {fuel : Nat} {listed : List Bool} {o : Oper} (hJ : List.Sublist GJ G ∨ needJ st l.length o = false) (h : TX P n w0 l st GJ Q fuel listed E G) :
    TQ n w0 (Exit.then (NX P w0 l st GJ Q fuel listed.toArray o) QF .normal) E G :=
  fun a w hs => ⟨hs.defers, fun hn => by
    rcases hJ with hJ | hJ
    · exact hs.new.sub hJ
    · (rw [hJ] at hn; cases hn), h a w hs⟩
def SOK (P : Program) (n : Nat) (w0 : World) (ops : Array Oper) (GJ : Heap) (F : Env) (o : Oper) (v : Value) : Prop :=
  ∀ F', (∀ k u, look k F = some u → look k F' = some u) → ∀ a w, S n w0 F' GJ a w → if Region.wanted o (yielded ops a.tmps) then (execOp a.eval o).run P w = .ok (.value v) w else v = undef
theorem SOK.pure {ops : Array Oper} {o : Oper} {v : Value} (hp : PV P n w0 E GJ o v) (hg : wants ops E o.guard = some true) : SOK P n w0 ops GJ E o v := by
  intro F' hF a w hs
  have hs' := hs.env_le hF
  rw [if_pos (hs'.wants hg)]
  exact hp a w hs'
theorem SOK.skip {ops : Array Oper} {o : Oper} (hg : wants ops E o.guard = some false) : SOK P n w0 ops GJ E o undef := by
  intro F' hF a w hs
  have := (hs.env_le hF).wants (o := o) hg
  rw [if_neg (by simp [this])]
def TB (P : Program) (n : Nat) (w0 : World) (l0 : List Oper) (st : List Bool) (GJ : Heap) (Q : Exit → Act → World → Prop) (fuel : Nat) (E0 : Env) (G : Heap) : List Oper → List Bool → Env → Prop
  | o :: r, true :: fs, B => ∃ d v, o.dst = some d ∧ d < n ∧ SOK P n w0 l0.toArray GJ (depB l0 B o.after.toList ++ E0) o v ∧ TB P n w0 l0 st GJ Q fuel E0 G r fs ((d, v) :: B)
  | _ :: r, false :: fs, B => TB P n w0 l0 st GJ Q fuel E0 G r fs B
  | _, _, B => TX P n w0 l0 st GJ Q fuel st (B ++ E0) G
theorem TB.op {l0 : List Oper} {fuel : Nat} {E0 : Env} {r : List Oper} {fs : List Bool} {B : Env} {d : Nat} {v : Value} {op : Op} {ty : TypeId} {pos : String} {aft : Array Edge} {g : Option (Nat × Bool)}
    (ho : SOK P n w0 l0.toArray GJ (depB l0 B aft.toList ++ E0) ⟨some d, op, ty, pos, aft, g⟩ v) (hd : d < n) (h : TB P n w0 l0 st GJ Q fuel E0 G r fs ((d, v) :: B)) :
    TB P n w0 l0 st GJ Q fuel E0 G (⟨some d, op, ty, pos, aft, g⟩ :: r) (true :: fs) B := ⟨d, v, rfl, hd, ho, h⟩
theorem TB.no {l0 : List Oper} {fuel : Nat} {E0 : Env} {r : List Oper} {fs : List Bool} {B : Env} {o : Oper} (h : TB P n w0 l0 st GJ Q fuel E0 G r fs B) : TB P n w0 l0 st GJ Q fuel E0 G (o :: r) (false :: fs) B := h
theorem TB.fin {l0 : List Oper} {fuel : Nat} {E0 : Env} {B : Env} (h : TX P n w0 l0 st GJ Q fuel st (B ++ E0) G) : TB P n w0 l0 st GJ Q fuel E0 G [] [] B := h
theorem TB.parts {l0 : List Oper} {fuel : Nat} {E0 : Env} : ∀ (r : List Oper) (fs : List Bool) (B : Env), r.length = fs.length → TB P n w0 l0 st GJ Q fuel E0 G r fs B →
    ∃ vs : List (Option Value), vs.length = r.length ∧ (∀ (i : Nat) (o : Oper), r[i]? = some o → fs[i]? = some true → ∃ (d : Nat) (v : Value), o.dst = some d ∧ d < n ∧ vs[i]? = some (some v) ∧
        SOK P n w0 l0.toArray GJ (depB l0 (((r.zip vs).take i).reverse.filterMap (fun p => match p.1.dst, p.2 with | some d, some v => some (d, v) | _, _ => none) ++ B) o.after.toList ++ E0) o v) ∧
      (∀ i : Nat, fs[i]? = some false → vs[i]? = some none) ∧
      TX P n w0 l0 st GJ Q fuel st ((r.zip vs).reverse.filterMap (fun p => match p.1.dst, p.2 with | some d, some v => some (d, v) | _, _ => none) ++ B ++ E0) G
  | [], [], B, _, h => ⟨[], rfl, by simp, by simp, by simpa [TB] using h⟩
  | [], _ :: _, _, hl, _ => by simp at hl
  | _ :: _, [], _, hl, _ => by simp at hl
  | o :: r, false :: fs, B, hl, h => by
    obtain ⟨vs, h1, h2, h3, h4⟩ := TB.parts r fs B (by simpa using hl) h
    refine ⟨none :: vs, by simp [h1], ?_, ?_, ?_⟩
    · intro i o' ho' hfs
      cases i with
      | zero => simp at hfs
      | succ i =>
        simp only [List.getElem?_cons_succ] at ho' hfs
        obtain ⟨d, v, e1, e2, e3, e4⟩ := h2 i o' ho' hfs
        refine ⟨d, v, e1, e2, by simpa using e3, ?_⟩
        simpa [List.filterMap_append] using e4
    · intro i hi
      cases i with
      | zero => rfl
      | succ i => simpa using h3 i (by simpa using hi)
    · simpa [List.filterMap_append] using h4
  | o :: r, true :: fs, B, hl, ⟨d, v, e1, e2, e3, h⟩ => by
    obtain ⟨vs, h1, h2, h3, h4⟩ := TB.parts r fs _ (by simpa using hl) h
    refine ⟨some v :: vs, by simp [h1], ?_, ?_, ?_⟩
    · intro i o' ho' hfs
      cases i with
      | zero =>
        simp at ho'
        subst ho'
        exact ⟨d, v, e1, e2, rfl, by simpa using e3⟩
      | succ i =>
        simp only [List.getElem?_cons_succ] at ho' hfs
        obtain ⟨d', v', f1, f2, f3, f4⟩ := h2 i o' ho' hfs
        refine ⟨d', v', f1, f2, by simpa using f3, ?_⟩
        simpa [List.filterMap_append, e1] using f4
    · intro i hi
      cases i with
      | zero => simp at hi
      | succ i => simpa using h3 i (by simpa using hi)
    · simpa [List.filterMap_append, e1] using h4
def mixB (l : List Oper) (st : List Bool) : Bool :=
  (List.range l.length).all fun i => match l[i]? with
    | none => true
    | some o => (match o.op with | .select .. => false | _ => true) && (isSt st i || ((o.looksAt l.toArray).all fun k => (List.range l.length).all fun j => !isSt st j || bindsOn o j || (match l[j]? with | some oj => oj.dst != some k | none => true)))
theorem all_range {m : Nat} {f : Nat → Bool} (h : (List.range m).all f = true) {i : Nat} (hi : i < m) : f i = true := List.all_eq_true.1 h i (List.mem_range.2 hi)
theorem exec_agree {a a' : Act} {o : Oper} {ops : Array Oper} (hs : ∀ cs b, o.op ≠ .select cs b) (h : ∀ k ∈ o.looksAt ops, a.tmps[k]? = a'.tmps[k]?) :
    execOp a.eval o = execOp a'.eval o ∧ Region.wanted o (yielded ops a.tmps) = Region.wanted o (yielded ops a'.tmps) := by
  constructor
  · refine execOp_congr o hs fun x hx => ?_
    cases x with
    | tmp t =>
      have := h t (List.mem_append_left _ (List.mem_filterMap.2 ⟨.tmp t, by simpa using hx, rfl⟩))
      simp [Act.eval, Array.getD_eq_getD_getElem?, this]
    | const c => rfl
    | global g => rfl
    | func f => rfl
  · unfold Region.wanted
    cases hg : o.guard with
    | none => rfl
    | some jw =>
      obtain ⟨j, want⟩ := jw
      simp only [yielded]
      cases hd : (ops[j]?).bind (·.dst) with
      | none => rfl
      | some k =>
        have := h k (List.mem_append_right _ (by simp [hg, hd]))
        simp [this]
theorem put_get {a : Act} {d k : Nat} {v : Value} (hd : d < a.tmps.size) : (a.put (some d) v).tmps[k]? = if k = d then some v else a.tmps[k]? := by
  show (a.tmps.setIfInBounds d v)[k]? = _
  rw [Array.getElem?_setIfInBounds]
  by_cases h : k = d
  · subst h; simp [hd]
  · simp [h, Ne.symm h]
theorem mix_any {l : List Oper} (st : List Bool) (GJ : Heap) (fuel : Nat) (hm : P.follows .mixedOrders = true) (hst : st.length = l.length) (hnd : nodupB (dstsL l) = true) (hed : edgesB l 0 l = true) (hmx : mixB l st = true)
    (hds : (List.range l.length).all (fun i => match l[i]? with | some o => (match o.dst with | some d => decide (d < n) | none => true) | none => true) = true)
    (hGJ : List.Sublist GJ G) (h : TB P n w0 l st GJ Q fuel (hide (dstsL l) E) G l st []) : ∀ a w, S n w0 E G a w → wpAny P .any l.toArray Q l.toArray.size (Array.replicate l.toArray.size false) a { w with drawn := w.drawn + 1 } := by
  intro a w hs
  obtain ⟨vs, hvl, hop, hno, hx⟩ := TB.parts l st [] hst.symm h
  rw [List.append_nil] at hx
  -- a list of the stable bindings
  generalize hB : (l.zip vs).reverse.filterMap (fun p => match p.1.dst, p.2 with | some d, some v => some (d, v) | _, _ => none) = B at hx
  have hdstn : ∀ (i : Nat) (o : Oper) (d : Nat), l[i]? = some o → o.dst = some d → d < n := by
    intro i o d ho hd
    have hi : i < l.length := (List.getElem?_eq_some_iff.1 ho).1
    have := all_range hds hi
    simp only [ho, hd] at this
    simpa using this
  have hnod : (dstsL l).Nodup := nodupB_spec hnd
  have hinj : ∀ (r : List Oper), (dstsL r).Nodup → ∀ (i j : Nat) (o o' : Oper) (d : Nat), r[i]? = some o → r[j]? = some o' → o.dst = some d → o'.dst = some d → i = j := by
    intro r
    induction r with
    | nil => intro _ i j o o' d ho; simp at ho
    | cons q r ih =>
      intro hn i j o o' d ho ho' hd hd'
      have hmem : ∀ (k : Nat) (p : Oper), r[k]? = some p → p.dst = some d → d ∈ dstsL r := by
        clear ih hn ho ho'
        induction r with
        | nil => intro k p hk; simp at hk
        | cons q' r ih' =>
          intro k p hk hp
          cases k with
          | zero => simp at hk; subst hk; simp [dstsL, hp]
          | succ k =>
            have := ih' k p (by simpa using hk) hp
            simp only [dstsL]
            cases q'.dst with
            | none => exact this
            | some u => exact .tail _ this
      have htail : (dstsL r).Nodup := by
        simp only [dstsL] at hn
        cases hq : q.dst with
        | none => rw [hq] at hn; exact hn
        | some u => rw [hq] at hn; exact (List.nodup_cons.1 hn).2
      cases i with
      | zero =>
        simp at ho
        subst ho
        cases j with
        | zero => rfl
        | succ j =>
          have := hmem j o' (by simpa using ho') hd'
          simp only [dstsL, hd] at hn
          exact absurd this (List.nodup_cons.1 hn).1
      | succ i =>
        cases j with
        | zero =>
          simp at ho'
          subst ho'
          have := hmem i o (by simpa using ho) hd
          simp only [dstsL, hd'] at hn
          exact absurd this (List.nodup_cons.1 hn).1
        | succ j => rw [ih htail i j o o' d (by simpa using ho) (by simpa using ho') hd hd']
  have hdin : ∀ (i : Nat) (o : Oper) (d : Nat), l[i]? = some o → o.dst = some d → (dstsL l).contains d = true := by
    intro i o d ho hd
    have : ∀ (r : List Oper) (k : Nat), r[k]? = some o → d ∈ dstsL r := by
      intro r
      induction r with
      | nil => intro k hk; simp at hk
      | cons q r ih =>
        intro k hk
        cases k with
        | zero => simp at hk; subst hk; simp [dstsL, hd]
        | succ k =>
          have := ih k (by simpa using hk)
          simp only [dstsL]
          cases q.dst with
          | none => exact this
          | some u => exact .tail _ this
    exact List.contains_iff_mem.2 (this l i ho)
  have hBmem : ∀ d v, (d, v) ∈ B ↔ ∃ (i : Nat) (o : Oper), l[i]? = some o ∧ o.dst = some d ∧ vs[i]? = some (some v) := by
    intro d v
    rw [← hB]
    simp only [List.mem_filterMap, List.mem_reverse]
    constructor
    · rintro ⟨⟨o, u⟩, hmem, hu⟩
      obtain ⟨i, hi, hip⟩ := List.mem_iff_getElem.1 hmem
      have hz : (l.zip vs)[i]? = some (o, u) := by rw [← hip]; exact List.getElem?_eq_getElem hi
      rw [List.getElem?_zip_eq_some] at hz
      cases hd : o.dst with
      | none => simp [hd] at hu
      | some d' =>
        cases u with
        | none => simp [hd] at hu
        | some v' =>
          simp [hd] at hu
          obtain ⟨rfl, rfl⟩ := hu
          exact ⟨i, o, hz.1, hd, hz.2⟩
    · rintro ⟨i, o, ho, hd, hv⟩
      refine ⟨(o, some v), ?_, by simp [hd]⟩
      have hz : (l.zip vs)[i]? = some (o, some v) := List.getElem?_zip_eq_some.2 ⟨ho, hv⟩
      exact List.mem_of_getElem? hz
  have hBst : ∀ (i : Nat) (v : Value), vs[i]? = some (some v) → isSt st i = true := by
    intro i v hv
    unfold isSt
    cases hb : st.getD i false with
    | true => rfl
    | false =>
      have hi : i < vs.length := (List.getElem?_eq_some_iff.1 hv).1
      have : st[i]? = some false := by
        have hi' : i < st.length := by omega
        simp [List.getD, hi'] at hb
        simp [hi', hb]
      rw [hno i this] at hv
      cases hv
  have hlook : ∀ (i : Nat) (o : Oper) (d : Nat) (v : Value), l[i]? = some o → o.dst = some d → vs[i]? = some (some v) → look d B = some v := by
    intro i o d v ho hd hv
    have hmem := (hBmem d v).2 ⟨i, o, ho, hd, hv⟩
    have : ∀ (A : Env), (d, v) ∈ A → (∀ u, (d, u) ∈ A → u = v) → look d A = some v := by
      intro A
      induction A with
      | nil => intro h; cases h
      | cons p A ih =>
        intro h hu
        simp only [look_cons]
        cases hb : Nat.beq p.1 d with
        | true =>
          have e := Nat.eq_of_beq_eq_true hb
          have := hu p.2 (by rw [← e]; exact .head _)
          simp [this]
        | false =>
          refine ih ?_ (fun u hmu => hu u (.tail _ hmu))
          rcases List.mem_cons.1 h with h | h
          · rw [← h] at hb; simp at hb
          · exact h
    refine this B hmem (fun u hu => ?_)
    obtain ⟨i', o', ho', hd', hv'⟩ := (hBmem d u).1 hu
    have := hinj l hnod i i' o o' d ho ho' hd hd'
    subst this
    rw [hv] at hv'
    simpa using hv'.symm
  have hlook' : ∀ d v, look d B = some v → ∃ (i : Nat) (o : Oper), l[i]? = some o ∧ o.dst = some d ∧ vs[i]? = some (some v) := fun d v h => (hBmem d v).1 (look_mem h)
  -- the virtual frame
  generalize hE0 : hide (dstsL l) E = E0 at *
  have hE0le : ∀ k u, look k E0 = some u → look k E = some u ∧ (dstsL l).contains k = false := by
    intro k u hk
    rw [← hE0] at hk
    have := look_hide hk
    exact ⟨this.2, this.1⟩
  have hvirt : ∀ (A : Env), (∀ p ∈ A, p.1 < n) → ∃ a' : Act, S n w0 (A ++ E0) G a' w ∧ ∀ k, (∀ p ∈ A, p.1 ≠ k) → a'.tmps[k]? = a.tmps[k]? := by
    intro A
    induction A with
    | nil => intro _; exact ⟨a, hs.env_le (fun k u hk => (hE0le k u hk).1), fun k _ => rfl⟩
    | cons p A ih =>
      intro hA
      obtain ⟨a', h1, h2⟩ := ih (fun q hq => hA q (.tail _ hq))
      refine ⟨a'.put (some p.1) p.2, h1.put (hA p (.head _)) p.2, fun k hk => ?_⟩
      rw [put_get (by rw [h1.size]; exact hA p (.head _)), if_neg (fun e => hk p (.head _) e.symm)]
      exact h2 k (fun q hq => hk q (.tail _ hq))
  have hBn : ∀ p ∈ B, p.1 < n := by
    intro p hp
    obtain ⟨i, o, ho, hd, _⟩ := (hBmem p.1 p.2).1 hp
    exact hdstn i o p.1 ho hd
  obtain ⟨av, hSv, hav⟩ := hvirt B hBn
  -- the run
  have hlen : l.toArray.size = l.length := by simp
  have key : ∀ (fuel' : Nat) (fv : Nat) (listed lv : Array Bool) (a1 a2 : Act) (w1 : World), listed.size = l.length → lv.size = l.length → listed.toList.count false ≤ fuel' →
      (∀ i, i < l.length → (lv.getD i false = true ↔ (listed.getD i false = true ∨ isSt st i = true))) →
      wpX P l st w0 GJ Q fv lv a2 w1 → a1.tmps.size = n → a2.tmps.size = n → a1.defers = a2.defers → a1.defers = [] →
      (∀ (k : Nat), (∀ (i : Nat) (o : Oper), l[i]? = some o → isSt st i = true → listed.getD i false = false → o.dst ≠ some k) → a1.tmps[k]? = a2.tmps[k]?) →
      (∀ (i : Nat) (o : Oper) (d : Nat) (v : Value), l[i]? = some o → o.dst = some d → vs[i]? = some (some v) → a2.tmps[d]? = some v) →
      (∀ k u, look k E0 = some u → a1.tmps[k]? = some u) →
      ((∃ i, i < l.length ∧ isSt st i = true ∧ listed.getD i false = false) → JOK w0 GJ w1) →
      wpAny P .any l.toArray Q fuel' listed a1 w1 := by
    intro fuel'
    have hdone : ∀ (fv : Nat) (listed lv : Array Bool) (a1 a2 : Act) (w1 : World), listed.size = l.length → lv.size = l.length → Region.ready .any l.toArray listed = [] →
        (∀ i, i < l.length → (lv.getD i false = true ↔ (listed.getD i false = true ∨ isSt st i = true))) →
        wpX P l st w0 GJ Q fv lv a2 w1 → a1.tmps.size = n → a2.tmps.size = n → a1.defers = a2.defers →
        (∀ (k : Nat), (∀ (i : Nat) (o : Oper), l[i]? = some o → isSt st i = true → listed.getD i false = false → o.dst ≠ some k) → a1.tmps[k]? = a2.tmps[k]?) → Q .normal a1 w1 := by
      intro fv listed lv a1 a2 w1 hls hlv hr hrel hw hn1 hn2 hdf hag
      have hall : ∀ i, i < l.length → listed.getD i false = true := by
        intro i
        induction i using Nat.strongRecOn with
        | _ i ih =>
          intro hi
          cases hli : listed.getD i false with
          | true => rfl
          | false =>
            exfalso
            have : i ∈ Region.ready .any l.toArray listed := by
              rw [mem_ready]
              refine ⟨?_, l[i], by simp [hi], fun e he hb => ?_⟩
              · have hi2 : i < listed.size := by omega
                simp [Array.getD, hi2] at hli ⊢
                exact hli
              · have := edgesB_spec hed i l[i] (by simp [hi]) e he hb
                exact ih e.on (by omega) (by omega)
            rw [hr] at this
            cases this
      have hlvall : Region.ready .any l.toArray lv = [] := by
        rw [List.eq_nil_iff_forall_not_mem]
        intro j hj
        obtain ⟨h0, o, ho, _⟩ := mem_ready.1 hj
        have hjl : j < l.length := by
          have := (Array.getElem?_eq_some_iff.1 ho).1
          simpa using this
        have := (hrel j hjl).2 (.inl (hall j hjl))
        simp [Array.getD, show j < lv.size by omega] at this h0
        rw [this] at h0
        cases h0
      have he : a1 = a2 := by
        obtain ⟨t1, d1⟩ := a1
        obtain ⟨t2, d2⟩ := a2
        simp only at hdf hn1 hn2 hag
        subst hdf
        congr 1
        apply Array.ext_getElem?
        intro k
        refine hag k (fun i o ho _ hli => ?_)
        have hi : i < l.length := (List.getElem?_eq_some_iff.1 ho).1
        rw [hall i hi] at hli
        cases hli
      rw [he]
      cases fv with
      | zero => exact hw.2
      | succ k => exact hw.1 hlvall
    induction fuel' with
    | zero =>
      intro fv listed lv a1 a2 w1 hls hlv hc hrel hw hn1 hn2 hdf hd0 hag hvv hE1 hJ
      have hr : Region.ready .any l.toArray listed = [] := by
        rw [List.eq_nil_iff_forall_not_mem]
        intro j hj
        have := (mem_ready.1 hj).1
        have hj2 : j < listed.size := by
          cases Nat.lt_or_ge j listed.size with
          | inl h => exact h
          | inr h => simp [Array.getD, Nat.not_lt.2 h] at this
        have hmem : false ∈ listed.toList := by
          simp [Array.getD, hj2] at this
          rw [← this]
          simp
        have := List.count_pos_iff.2 hmem
        omega
      exact ⟨hr, hdone fv listed lv a1 a2 w1 hls hlv hr hrel hw hn1 hn2 hdf hag⟩
    | succ fuel' ih =>
      intro fv listed lv a1 a2 w1 hls hlv hc hrel hw hn1 hn2 hdf hd0 hag hvv hE1 hJ
      refine ⟨fun hr => hdone fv listed lv a1 a2 w1 hls hlv hr hrel hw hn1 hn2 hdf hag, fun i hi => ?_⟩
      obtain ⟨hi0, o, ho, hall⟩ := mem_ready.1 hi
      have hol : l[i]? = some o := by simpa using ho
      have hil : i < l.length := (List.getElem?_eq_some_iff.1 hol).1
      have hi1 : i < listed.size := by omega
      have hli : listed.getD i false = false := by
        simp [Array.getD, hi1] at hi0 ⊢
        exact hi0
      have hsetsz : (listed.setIfInBounds i true).size = l.length := by simp [hls]
      have hcount : (listed.setIfInBounds i true).toList.count false ≤ fuel' := by
        rw [Array.toList_setIfInBounds]
        have hf : listed.toList[i]'(by simpa using hi1) = false := by
          simp [Array.getD, hi1] at hi0
          simpa using hi0
        rw [List.count_set (h := by simpa using hi1), hf]
        have : 0 < listed.toList.count false := List.count_pos_iff.2 (by rw [← hf]; exact List.getElem_mem _)
        simp
        have e : listed.toList.count false = Array.count false listed := by simp [Array.count_toList]
        omega
      have hgetset : ∀ j, (listed.setIfInBounds i true).getD j false = if j = i then true else listed.getD j false := by
        intro j
        by_cases hji : j = i
        · subst hji; simp [Array.getD, hi1]
        · rw [getD_set_ne false (Ne.symm hji), if_neg hji]
      unfold wpOp
      rw [ho]
      dsimp only
      cases hsti : isSt st i with
      | true =>
        have hsti' : st[i]? = some true := by
          have : i < st.length := by omega
          simp [isSt, List.getD, this] at hsti
          simp [this, hsti]
        obtain ⟨d, v, hd, hdn, hv, hok⟩ := hop i o hol hsti'
        rw [List.append_nil] at hok
        have hJw := hJ ⟨i, hil, hsti, hli⟩
        have hS1 : S n w0 (depB l (((l.zip vs).take i).reverse.filterMap (fun p => match p.1.dst, p.2 with | some d, some v => some (d, v) | _, _ => none)) o.after.toList ++ E0) GJ a1 w1 := by
          refine ⟨hn1, hd0, fun k u hk => ?_, hJw⟩
          rcases look_append hk with hk | hk
          · obtain ⟨e, he, hb, o', ho', hd', hl'⟩ := look_depB hk
            have hmem := look_mem hl'
            have hmemB : (k, u) ∈ B := by
              rw [← hB]
              obtain ⟨q, hq, hq2⟩ := List.mem_filterMap.1 hmem
              exact List.mem_filterMap.2 ⟨q, by rw [List.mem_reverse] at hq ⊢; exact List.mem_of_mem_take hq, hq2⟩
            obtain ⟨j, oj, hoj, hdj, hvj⟩ := (hBmem k u).1 hmemB
            have hje : j = e.on := hinj l hnod j e.on oj o' k hoj ho' hdj hd'
            subst hje
            have hlj : listed.getD e.on false = true := hall e (by simpa using he) hb
            rw [hag k (fun i' o'' ho'' _ hl'' hd'' => ?_)]
            · exact hvv e.on oj k u hoj hdj hvj
            · have := hinj l hnod i' e.on o'' oj k ho'' hoj hd'' hdj
              subst this
              rw [hlj] at hl''
              cases hl''
          · exact hE1 k u hk
        have hrun := hok _ (fun k u hk => hk) a1 w1 hS1
        have hnext : wpAny P .any l.toArray Q fuel' (listed.setIfInBounds i true) (a1.put o.dst v) w1 := by
          rw [hd]
          refine ih fv _ lv _ a2 w1 hsetsz hlv hcount ?_ hw (by show (a1.tmps.setIfInBounds d v).size = n; simp [hn1]) hn2 hdf hd0 ?_ hvv ?_ ?_
          · intro j hj
            rw [hgetset]
            by_cases hji : j = i
            · subst hji; simp [hsti, (hrel j hj).2 (.inr hsti)]
            · rw [if_neg hji]; exact hrel j hj
          · intro k hk
            rw [put_get (by rw [hn1]; exact hdn)]
            by_cases hkd : k = d
            · subst hkd
              rw [if_pos rfl, hvv i o k v hol hd hv]
            · rw [if_neg hkd]
              refine hag k (fun i' o'' ho'' hs'' hl'' hd'' => ?_)
              by_cases hii : i' = i
              · subst hii
                rw [hol] at ho''
                cases ho''
                rw [hd] at hd''
                exact hkd (by simpa using hd''.symm)
              · exact hk i' o'' ho'' hs'' (by rw [hgetset, if_neg hii]; exact hl'') hd''
          · intro k u hk
            rw [put_get (by rw [hn1]; exact hdn), if_neg]
            · exact hE1 k u hk
            · intro e
              subst e
              have := (hE0le k u hk).2
              rw [hdin i o k hol hd] at this
              cases this
          · intro _
            exact hJw
        by_cases hwt : Region.wanted o (yielded l.toArray a1.tmps) = true
        · rw [if_pos hwt] at hrun ⊢
          refine .inl ?_
          unfold Oper.wp
          rw [hrun]
          exact hnext
        · rw [if_neg hwt] at hrun ⊢
          rw [← hrun]
          exact hnext
      | false =>
        have hmi := all_range hmx hil
        simp only [hol, hsti, Bool.false_or, Bool.and_eq_true] at hmi
        have hsel : ∀ cs b, o.op ≠ .select cs b := by
          intro cs b e
          rw [e] at hmi
          cases hmi.1
        have hlk : ∀ k ∈ o.looksAt l.toArray, a1.tmps[k]? = a2.tmps[k]? := by
          intro k hk
          refine hag k (fun j oj hoj hsj hlj hdj => ?_)
          have hjl : j < l.length := (List.getElem?_eq_some_iff.1 hoj).1
          have h1 := List.all_eq_true.1 hmi.2 k hk
          have h2 := all_range h1 hjl
          simp only [hsj, Bool.not_true, Bool.false_or, hoj, hdj, Bool.or_eq_true] at h2
          rcases h2 with h2 | h2
          · simp only [bindsOn, List.any_eq_true, Bool.and_eq_true, beq_iff_eq] at h2
            obtain ⟨e, he, hb, hon⟩ := h2
            have := hall e (by simpa using he) hb
            rw [hon, hlj] at this
            cases this
          · simp at h2
        obtain ⟨hex, hwa⟩ := exec_agree hsel hlk
        have hlvi : lv.getD i false = false := by
          cases hh : lv.getD i false with
          | false => rfl
          | true =>
            rcases (hrel i hil).1 hh with h3 | h3
            · rw [hli] at h3; cases h3
            · rw [hsti] at h3; cases h3
        have hiv : i ∈ Region.ready .any l.toArray lv := by
          rw [mem_ready]
          refine ⟨?_, o, ho, fun e he hb => ?_⟩
          · simp [Array.getD, show i < lv.size by omega] at hlvi ⊢
            exact hlvi
          · have hon : e.on < l.length := by
              have := edgesB_spec hed i o hol e he hb
              omega
            exact (hrel e.on hon).2 (.inl (hall e he hb))
        cases fv with
        | zero => rw [hw.1] at hiv; cases hiv
        | succ fv =>
          have hstep := hw.2 i hiv o hol
          unfold wpList at hstep
          have hcont : ∀ (v : Value) (w' : World), wpList P l.toArray (Exit.then (fun a' w' => a'.defers = [] ∧ (needJ st l.length o = true → JOK w0 GJ w') ∧ wpX P l st w0 GJ Q fv (lv.setIfInBounds i true) a' w') QF) [] (a2.put o.dst v) w' →
              wpAny P .any l.toArray Q fuel' (listed.setIfInBounds i true) (a1.put o.dst v) w' := by
            intro v w' hq
            unfold wpList at hq
            obtain ⟨_, hq1, hq2⟩ : (a2.put o.dst v).defers = [] ∧ (needJ st l.length o = true → JOK w0 GJ w') ∧ wpX P l st w0 GJ Q fv (lv.setIfInBounds i true) (a2.put o.dst v) w' := hq
            have hsz : ∀ (b : Act), b.tmps.size = n → (b.put o.dst v).tmps.size = n := by
              intro b hb
              cases hd : o.dst with
              | none => exact hb
              | some d => show (b.tmps.setIfInBounds d v).size = n; simp [hb]
            have hdef : ∀ (b : Act), (b.put o.dst v).defers = b.defers := by
              intro b
              cases o.dst <;> rfl
            have hputk : ∀ (b : Act), b.tmps.size = n → ∀ k, (b.put o.dst v).tmps[k]? = if o.dst = some k then some v else b.tmps[k]? := by
              intro b hb k
              cases hd : o.dst with
              | none => simp [Act.put]
              | some d =>
                rw [put_get (by rw [hb]; exact hdstn i o d hol hd)]
                by_cases hkd : k = d
                · subst hkd; simp
                · rw [if_neg hkd, if_neg (by simpa using Ne.symm hkd)]
            refine ih fv _ (lv.setIfInBounds i true) _ (a2.put o.dst v) w' hsetsz (by simp [hlv]) hcount ?_ hq2 (hsz a1 hn1) (hsz a2 hn2) (by rw [hdef, hdef]; exact hdf) (by rw [hdef]; exact hd0) ?_ ?_ ?_ ?_
            · intro j hj
              rw [hgetset]
              by_cases hji : j = i
              · subst hji; simp [Array.getD, show j < lv.size by omega]
              · rw [if_neg hji, getD_set_ne false (Ne.symm hji)]; exact hrel j hj
            · intro k hk
              rw [hputk a1 hn1, hputk a2 hn2]
              split
              · rfl
              · refine hag k (fun i' o'' ho'' hs'' hl'' hd'' => ?_)
                by_cases hii : i' = i
                · subst hii; rw [hsti] at hs''; cases hs''
                · exact hk i' o'' ho'' hs'' (by rw [hgetset, if_neg hii]; exact hl'') hd''
            · intro j oj d u hoj hdj hvj
              rw [hputk a2 hn2, if_neg]
              · exact hvv j oj d u hoj hdj hvj
              · intro e
                have := hinj l hnod j i oj o d hoj hol hdj e
                subst this
                have := hBst j u hvj
                rw [hsti] at this
                cases this
            · intro k u hk
              rw [hputk a1 hn1, if_neg]
              · exact hE1 k u hk
              · intro e
                have := (hE0le k u hk).2
                rw [hdin i o k hol e] at this
                cases this
            · rintro ⟨j, hjl, hsj, hlj⟩
              refine hq1 ?_
              unfold needJ
              rw [List.any_eq_true]
              refine ⟨j, List.mem_range.2 hjl, ?_⟩
              rw [hsj, Bool.true_and]
              cases hbo : bindsOn o j with
              | false => rfl
              | true =>
                exfalso
                simp only [bindsOn, List.any_eq_true, Bool.and_eq_true, beq_iff_eq] at hbo
                obtain ⟨e, he, hb, hon⟩ := hbo
                have h4 := hall e (by simpa using he) hb
                rw [hgetset] at hlj
                by_cases hji : j = i
                · rw [if_pos hji] at hlj; cases hlj
                · rw [if_neg hji, ← hon, h4] at hlj; cases hlj
          rw [← hwa] at hstep
          by_cases hwt : Region.wanted o (yielded l.toArray a1.tmps) = true
          · rw [if_pos hwt] at hstep ⊢
            rcases hstep with hstep | ⟨_, _, _, hf⟩
            · refine .inl ?_
              unfold Oper.wp at hstep ⊢
              rw [hex]
              generalize (execOp a2.eval o).run P w1 = r at hstep
              cases r with
              | ok nx w' =>
                cases nx <;> simp only [Oper.upon] at hstep ⊢
                all_goals first
                  | exact hcont _ _ hstep
                  | exact hstep.elim
                  | (refine Calls.mono hstep ?_; rintro e w'' he; cases e with | returned v => exact hcont _ _ he | panicked c => exact he.elim | outgrown => (obtain ⟨_, _, hf⟩ := he; exact hf.elim))
                  | (refine Rows.mono hstep ?_; intro v w'' he; exact hcont _ _ he)
                  | skip
                case defer dd =>
                  exfalso
                  unfold wpList at hstep
                  obtain ⟨h9, _⟩ : ((({ a2 with defers := dd :: a2.defers } : Act).put o.dst undef).defers = []) ∧ _ := hstep
                  cases hdo : o.dst <;> rw [hdo] at h9 <;> simp [Act.put] at h9
              | halt x w' =>
                cases x <;> simp only [Oper.upon] at hstep ⊢
                all_goals first | exact hstep.elim | exact (hstep : False).elim
            · exact hf.elim
          · rw [if_neg hwt] at hstep ⊢
            exact hcont _ _ hstep
  refine (key _ fuel _ st.toArray a av _ (by simp) (by simp [hst]) ?_ ?_ ?_ hs.size hSv.size (by rw [hs.defers, hSv.defers]) hs.defers ?_ ?_ ?_ ?_)
  · simp [List.count_replicate]
  · intro i hi
    have : (Array.replicate l.toArray.size false).getD i false = false := by simp [Array.getD]
    rw [this]
    simp [isSt, List.getD, Array.getD, show i < st.length by omega]
  · exact hx av _ (hSv.world hSv.new.drew)
  · intro k hk
    symm
    refine hav k (fun p hp e => ?_)
    obtain ⟨i, o, ho, hd, hv⟩ := (hBmem p.1 p.2).1 hp
    exact hk i o ho (hBst i p.2 hv) (by simp [Array.getD]) (by rw [hd, e])
  · intro i o d v ho hd hv
    have hl := hlook i o d v ho hd hv
    exact hSv.env d v (by
      have : ∀ (A : Env), look d A = some v → look d (A ++ E0) = some v := by
        intro A
        induction A with
        | nil => intro h; simp [look_nil, look_cons] at h
        | cons p A ih =>
          intro h
          simp only [List.cons_append, look_cons] at h ⊢
          cases hb : Nat.beq p.1 d with
          | true => rw [hb] at h; exact h
          | false => rw [hb] at h; exact ih h
      exact this B hl)
  · intro k u hk
    exact hs.env k u (hE0le k u hk).1
  · intro _
    exact hs.new.drew.sub hGJ
inductive Res (P : Program) (E : Env) (G : Heap) : List ResultVar → List Value → Prop
  | nil : Res P E G [] []
  | tmp {t : Nat} {v : Value} {rs : List ResultVar} {vs : List Value} (h : look t E = some v) (r : Res P E G rs vs) : Res P E G (.tmp t :: rs) (v :: vs)
  | cell {t ty b : Nat} {cs : Array Value} {e : TypeId} {fr : Nat × Nat} {v : Value} {rs : List ResultVar} {vs : List Value} (h : look t E = some (.pointer (some ⟨b, 0, none⟩))) (ht : oneB P ty = true) (hm : (b, Obj.cells cs e fr) ∈ G)
      (hv : cs[0]? = some v) (r : Res P E G rs vs) : Res P E G (.cell t ty :: rs) (v :: vs)
  | agg {t ty b k : Nat} {cs : List Value} {e : TypeId} {fr : Nat × Nat} {rs : List ResultVar} {vs : List Value} (h : look t E = some (.pointer (some ⟨b, 0, none⟩))) (ht : aggSize P ty = some k) (hm : (b, Obj.cells cs.toArray e fr) ∈ G)
      (hk : cs.length = k) (r : Res P E G rs vs) : Res P E G (.cell t ty :: rs) (.agg cs.toArray :: vs)
def rvar (tmps : Array Value) : ResultVar → Sem Value
  | .tmp t => pure (tmps.getD t undef)
  | .cell a t => do loadVar t (← asAddr (tmps.getD a undef))
theorem TC.mix {id : Nat} {l : List Oper} (st : List Bool) (GJ : Heap) (fuel : Nat) (hm : P.follows .mixedOrders = true) (hst : st.length = l.length) (hnd : nodupB (dstsL l) = true) (hed : edgesB l 0 l = true) (hmx : mixB l st = true)
    (hds : (List.range l.length).all (fun i => match l[i]? with | some o => (match o.dst with | some d => decide (d < n) | none => true) | none => true) = true)
    (hGJ : List.Sublist GJ G) (h : TB P n w0 l st GJ Q fuel (hide (dstsL l) E) G l st []) : TC P n w0 (.region id l.toArray true) Q E G := fun a w hs => wp_region_any hm (mix_any st GJ fuel hm hst hnd hed hmx hds hGJ h a w hs)
theorem Res.run {rs : List ResultVar} {vs : List Value} (hr : Res P E G rs vs) (hs : S n w0 E G a w) : (rs.mapM (rvar a.tmps)).run P w = .ok vs w := by
  have cons : ∀ (r : ResultVar) (rs : List ResultVar) (v : Value) (vs : List Value), (rvar a.tmps r).run P w = .ok v w → (rs.mapM (rvar a.tmps)).run P w = .ok vs w → ((r :: rs).mapM (rvar a.tmps)).run P w = .ok (v :: vs) w := by
    intro r rs v vs h1 h2
    simp [List.mapM_cons, h1, h2]
  induction hr with
  | nil => rfl
  | tmp h r ih =>
    have := hs.env _ _ h
    refine cons _ _ _ _ ?_ ih
    simp [rvar, Array.getD_eq_getD_getElem?, this]
  | @cell t ty b cs e fr v rs vs h ht hm hv r ih =>
    have := hs.env _ _ h
    have hc := hs.new.cell hm hv
    refine cons _ _ _ _ ?_ ih
    unfold oneB at ht
    cases hu : P.underlying ty with
    | none => simp [hu] at ht
    | some u => cases u <;> first | (simp [hu] at ht; done) | simp [rvar, Array.getD_eq_getD_getElem?, this, asAddr, loadVar, isAgg, run_underlying hu, hc]
  | @agg t ty b k cs e fr rs vs h ht hm hk r ih =>
    have := hs.env _ _ h
    have hl := run_loadAgg (P := P) (w := w) (b := b) (off := 0) ht hk (fun j v hv => by rw [Nat.zero_add]; exact hs.new.cell hm (by simpa using hv))
    refine cons _ _ _ _ ?_ ih
    simp [rvar, Array.getD_eq_getD_getElem?, this, asAddr, hl]
def tup : List Value → Value
  | [v] => v
  | vs => .tuple vs.toArray
theorem Res.toRun {fn : Func} {rs : List ResultVar} {vs : List Value} (hf : fn.results = rs.toArray) (hr : Res P E G rs vs) (hs : S n w0 E G a w) : (results fn a.tmps).run P w = .ok (tup vs) w := by
  have h := hr.run hs
  have e : (fn.results.mapM (rvar a.tmps)).run P w = .ok vs.toArray w := by
    rw [hf, Array.mapM_eq_mapM_toList]
    simp [h]
  have e2 : (results fn a.tmps).run P w = ((fn.results.mapM (rvar a.tmps)).run P w).andThen fun vs w => .ok (if h : vs.size = 1 then vs[0] else .tuple vs) w := by
    have hfun : Go.results fn a.tmps = (do let vs ← fn.results.mapM (rvar a.tmps); pure (if h : vs.size = 1 then vs[0] else .tuple vs)) := by
      unfold Go.results
      congr
    rw [hfun]
    simp
  rw [e2, e]
  simp only [Result.andThen_ok]
  congr 1
  match vs with
  | [] => rfl
  | [v] => rfl
  | v :: u :: r => simp [tup]
theorem TQ.retR {fn : Func} {rs : List ResultVar} {vs : List Value} {X : Type} {val : X → Value} {F : X → Prop} {D : X → Heap} (hf : fn.results = rs.toArray) (hr : Res P E G rs vs)
    (h : ∃ x, tup vs = val x ∧ F x ∧ List.Sublist (D x) G) : TQ n w0 (bodyPost P fn (Post val F D w0) .ret) E G := fun a w hs =>
  let ⟨x, hx, hF, hg⟩ := h
  bodyPost_ret (hr.toRun hf hs) hs.defers ⟨x, by rw [hx], hF, hs.new.sub hg⟩
theorem TQ.retN {fn : Func} {rs : List ResultVar} {vs : List Value} {X : Type} {val : X → Value} {F : X → Prop} {D : X → Heap} (hf : fn.results = rs.toArray) (hr : Res P E G rs vs)
    (h : ∃ x, tup vs = val x ∧ F x ∧ List.Sublist (D x) G) : TQ n w0 (bodyPost P fn (Post val F D w0) .normal) E G := fun a w hs =>
  let ⟨x, hx, hF, hg⟩ := h
  bodyPost_end (hr.toRun hf hs) hs.defers ⟨x, by rw [hx], hF, hs.new.sub hg⟩
end
end Go.Sx
