/- Sv Jm -/
import Derived.Test.YtbnjmkidbfmomaaGreatDoorV03
import Derived.Test.YtbnjmkidbfmomaaGreatDoorV04
import Derived.ScopeJumps
import Derived.Laws.IdiomCopy
set_option linter.unusedVariables false
set_option linter.unusedSimpArgs false
set_option maxRecDepth 100000
namespace Go.Sx
open Go.RowKit
def noSt (st : List Bool) (is : List Nat) : Bool := is.all fun i => !isSt st i
def PendF (P : Program) (n : Nat) (w0 : World) (l : List Oper) (GJ : Heap) (E0 : Env) (lv : Array Bool) (a : Act) (o : Oper) (v : Value) (F : Env) : Prop :=
  (∀ k u, look k F = some u → (look k E0 = some u ∨ (a.tmps[k]? = some u ∧ ∃ e ∈ o.after, Region.binds .any e = true ∧ lv.getD e.on false = true ∧ ∃ o', l[e.on]? = some o' ∧ o'.dst = some k))) ∧ SOK P n w0 l.toArray GJ F o v
def wpV (P : Program) (n : Nat) (l : List Oper) (st : List Bool) (w0 : World) (GJ : Heap) (E0 : Env) (Q : Exit → Act → World → Prop) : Nat → Array Bool → Act → World → Prop
  | 0, listed, a, w => Region.ready .any l.toArray listed = [] ∧ Q .normal a w
  | fuel + 1, listed, a, w => ((Region.ready .any l.toArray listed = [] → Q .normal a w) ∧ noSt st (Region.ready .any l.toArray listed) = true ∧ ∀ i ∈ Region.ready .any l.toArray listed, ∀ o, l[i]? = some o →
      wpList P l.toArray (Exit.then (fun a' w' => a'.defers = [] ∧ (needJ st l.length o = true → JOK w0 GJ w') ∧ wpV P n l st w0 GJ E0 Q fuel (listed.setIfInBounds i true) a' w') QF) [o] a w) ∨
    ∃ p o d v F, p ∈ Region.ready .any l.toArray listed ∧ l[p]? = some o ∧ o.dst = some d ∧ d < n ∧ isSt st p = true ∧ PendF P n w0 l GJ E0 listed a o v F ∧ wpV P n l st w0 GJ E0 Q fuel (listed.setIfInBounds p true) (a.put (some d) v) w
section
variable {P : Program} {n : Nat} {w0 : World} {E E0 : Env} {G GJ : Heap} {a : Act} {w : World} {Q : Exit → Act → World → Prop} {l : List Oper} {st : List Bool}
def NV (P : Program) (n : Nat) (w0 : World) (l : List Oper) (st : List Bool) (GJ : Heap) (E0 : Env) (Q : Exit → Act → World → Prop) (fuel : Nat) (listed : Array Bool) (o : Oper) (a : Act) (w : World) : Prop :=
  a.defers = [] ∧ (needJ st l.length o = true → JOK w0 GJ w) ∧ wpV P n l st w0 GJ E0 Q fuel listed a w
def TV (P : Program) (n : Nat) (w0 : World) (l : List Oper) (st : List Bool) (GJ : Heap) (E0 : Env) (Q : Exit → Act → World → Prop) (fuel : Nat) (listed : List Bool) (E : Env) (G : Heap) : Prop :=
  ∀ a w, S n w0 E G a w → wpV P n l st w0 GJ E0 Q fuel listed.toArray a w
def AllV (P : Program) (n : Nat) (w0 : World) (l : List Oper) (st : List Bool) (GJ : Heap) (E0 : Env) (Q : Exit → Act → World → Prop) (fuel : Nat) (listed : List Bool) (E : Env) (G : Heap) : List Nat → Prop
  | [] => True
  | i :: r => (∃ o, l[i]? = some o ∧ TL P n w0 l.toArray (Exit.then (NV P n w0 l st GJ E0 Q fuel (listed.set i true).toArray o) QF) [o] E G) ∧ AllV P n w0 l st GJ E0 Q fuel listed E G r
theorem AllV.get {fuel : Nat} {listed : List Bool} : ∀ {is : List Nat}, AllV P n w0 l st GJ E0 Q fuel listed E G is → ∀ i ∈ is, ∃ o, l[i]? = some o ∧ TL P n w0 l.toArray (Exit.then (NV P n w0 l st GJ E0 Q fuel (listed.set i true).toArray o) QF) [o] E G
  | [], _, i, hi => by cases hi
  | j :: r, h, i, hi => by
    rcases List.mem_cons.1 hi with rfl | hi
    · exact h.1
    · exact AllV.get h.2 i hi
theorem TV.step {fuel : Nat} {listed : List Bool} (is : List Nat) (hr : Region.ready .any l.toArray listed.toArray = is) (hne : is ≠ []) (hns : noSt st is = true) (h : AllV P n w0 l st GJ E0 Q fuel listed E G is) : TV P n w0 l st GJ E0 Q (fuel + 1) listed E G := by
  intro a w hs
  refine .inl ⟨fun h0 => absurd (hr.symm.trans h0) hne, by rw [hr]; exact hns, fun i hi o ho => ?_⟩
  rw [hr] at hi
  obtain ⟨o', ho', hT⟩ := h.get i hi
  rw [ho] at ho'
  cases ho'
  have e : listed.toArray.setIfInBounds i true = (listed.set i true).toArray := by simp
  rw [e]
  exact hT a w hs
theorem TV.done {fuel : Nat} {listed : List Bool} (hr : Region.ready .any l.toArray listed.toArray = []) (h : TQ n w0 (Q .normal) E G) : TV P n w0 l st GJ E0 Q fuel listed E G := by
  intro a w hs
  cases fuel with
  | zero => exact ⟨hr, h a w hs⟩
  | succ k => exact .inl ⟨fun _ => h a w hs, by rw [hr]; rfl, fun i hi => by rw [hr] at hi; cases hi⟩
theorem TV.next {fuel : Nat} {listed : List Bool} {o : Oper} (hJ : List.Sublist GJ G ∨ needJ st l.length o = false) (h : TV P n w0 l st GJ E0 Q fuel listed E G) :
    TQ n w0 (Exit.then (NV P n w0 l st GJ E0 Q fuel listed.toArray o) QF .normal) E G :=
  fun a w hs => ⟨hs.defers, fun hn => by
    rcases hJ with hJ | hJ
    · exact hs.new.sub hJ
    · (rw [hJ] at hn; cases hn), h a w hs⟩
theorem TV.virt {fuel : Nat} {listed : List Bool} (p : Nat) {o : Oper} {d : Nat} {v : Value} (ho : l[p]? = some o) (hd : o.dst = some d) (hdn : d < n) (hst : isSt st p = true) (hr : (Region.ready .any l.toArray listed.toArray).contains p = true)
    (hok : SOK P n w0 l.toArray GJ (depB l E o.after.toList ++ E0) o v) (h : TV P n w0 l st GJ E0 Q fuel (listed.set p true) ((d, v) :: E) G) : TV P n w0 l st GJ E0 Q (fuel + 1) listed E G := by
  intro a w hs
  have hp : p ∈ Region.ready .any l.toArray listed.toArray := List.contains_iff_mem.1 hr
  refine .inr ⟨p, o, d, v, _, hp, ho, hd, hdn, hst, ⟨fun k u hk => ?_, hok⟩, ?_⟩
  · rcases look_append hk with hk | hk
    · obtain ⟨e, he, hb, o', ho', hd', hl'⟩ := look_depB hk
      obtain ⟨_, o2, ho2, hall⟩ := mem_ready.1 hp
      have ho2' : l[p]? = some o2 := by simpa using ho2
      rw [ho] at ho2'
      cases ho2'
      exact .inr ⟨hs.env k u hl', e, by simpa using he, hb, hall e (by simpa using he) hb, o', ho', hd'⟩
    · exact .inl hk
  · have e : listed.toArray.setIfInBounds p true = (listed.set p true).toArray := by simp
    rw [e]
    exact h _ _ (hs.put hdn v)
theorem TV.split {fuel : Nat} {listed : List Bool} (s : Nat) {b : Bool} (hs : look s E = some (.bool b)) (ht : b = true → TV P n w0 l st GJ E0 Q fuel listed ((s, .bool true) :: E) G) (hf : b = false → TV P n w0 l st GJ E0 Q fuel listed ((s, .bool false) :: E) G) :
    TV P n w0 l st GJ E0 Q fuel listed E G := by
  intro a w h
  have hE : S n w0 ((s, .bool b) :: E) G a w := h.env_le fun k v hk => by
    simp only [look_cons] at hk
    by_cases e : Nat.beq s k = true
    · rw [e] at hk; simp at hk; have := Nat.eq_of_beq_eq_true e; subst this; rw [hs, hk]
    · have : Nat.beq s k = false := by cases h' : Nat.beq s k <;> simp_all
      rw [this] at hk; exact hk
  cases b with
  | true => exact ht rfl a w hE
  | false => exact hf rfl a w hE
theorem TV.splitD {fuel : Nat} {listed : List Bool} (s : Nat) {p : Prop} [Decidable p] (hs : look s E = some (.bool (decide p))) (ht : p → TV P n w0 l st GJ E0 Q fuel listed ((s, .bool true) :: E) G) (hf : ¬ p → TV P n w0 l st GJ E0 Q fuel listed ((s, .bool false) :: E) G) :
    TV P n w0 l st GJ E0 Q fuel listed E G := TV.split s hs (fun h => ht (of_decide_eq_true h)) (fun h => hf (of_decide_eq_false h))
theorem mixV_any {l : List Oper} (st : List Bool) (GJ : Heap) (fuel : Nat) (hm : P.follows .mixedOrders = true) (hst : st.length = l.length) (hnd : nodupB (dstsL l) = true) (hed : edgesB l 0 l = true) (hmx : mixB l st = true)
    (hds : (List.range l.length).all (fun i => match l[i]? with | some o => (match o.dst with | some d => decide (d < n) | none => true) | none => true) = true)
    (hGJ : List.Sublist GJ G) (h : TV P n w0 l st GJ (hide (dstsL l) E) Q fuel (List.replicate l.length false) E G) : ∀ a w, S n w0 E G a w → wpAny P .any l.toArray Q l.toArray.size (Array.replicate l.toArray.size false) a { w with drawn := w.drawn + 1 } := by
  intro a w hs
  have hdstn : ∀ (i : Nat) (o : Oper) (d : Nat), l[i]? = some o → o.dst = some d → d < n := by
    intro i o d ho hd
    have hi : i < l.length := (List.getElem?_eq_some_iff.1 ho).1
    have := all_range hds hi
    simp only [ho, hd] at this
    simpa using this
  have hnod : (dstsL l).Nodup := nodupB_spec hnd
  have hinj : ∀ (r : List Oper), (dstsL r).Nodup → ∀ (i j : Nat) (o o' : Oper) (d : Nat), r[i]? = some o → r[j]? = some o' → o.dst = some d → o'.dst = some d → i = j := by
    intro r
    induction r with
    | nil => intro _ i j o o' d ho; simp at ho
    | cons q r ih =>
      intro hn i j o o' d ho ho' hd hd'
      have hmem : ∀ (k : Nat) (p : Oper), r[k]? = some p → p.dst = some d → d ∈ dstsL r := by
        clear ih hn ho ho'
        induction r with
        | nil => intro k p hk; simp at hk
        | cons q' r ih' =>
          intro k p hk hp
          cases k with
          | zero => simp at hk; subst hk; simp [dstsL, hp]
          | succ k =>
            have := ih' k p (by simpa using hk) hp
            simp only [dstsL]
            cases q'.dst with
            | none => exact this
            | some u => exact .tail _ this
      have htail : (dstsL r).Nodup := by
        simp only [dstsL] at hn
        cases hq : q.dst with
        | none => rw [hq] at hn; exact hn
        | some u => rw [hq] at hn; exact (List.nodup_cons.1 hn).2
      cases i with
      | zero =>
        simp at ho
        subst ho
        cases j with
        | zero => rfl
        | succ j =>
          have := hmem j o' (by simpa using ho') hd'
          simp only [dstsL, hd] at hn
          exact absurd this (List.nodup_cons.1 hn).1
      | succ i =>
        cases j with
        | zero =>
          simp at ho'
          subst ho'
          have := hmem i o (by simpa using ho) hd
          simp only [dstsL, hd'] at hn
          exact absurd this (List.nodup_cons.1 hn).1
        | succ j => rw [ih htail i j o o' d (by simpa using ho) (by simpa using ho') hd hd']
  have hdin : ∀ (i : Nat) (o : Oper) (d : Nat), l[i]? = some o → o.dst = some d → (dstsL l).contains d = true := by
    intro i o d ho hd
    have : ∀ (r : List Oper) (k : Nat), r[k]? = some o → d ∈ dstsL r := by
      intro r
      induction r with
      | nil => intro k hk; simp at hk
      | cons q r ih =>
        intro k hk
        cases k with
        | zero => simp at hk; subst hk; simp [dstsL, hd]
        | succ k =>
          have := ih k (by simpa using hk)
          simp only [dstsL]
          cases q.dst with
          | none => exact this
          | some u => exact .tail _ this
    exact List.contains_iff_mem.2 (this l i ho)
  generalize hE0 : hide (dstsL l) E = E0 at *
  have hE0le : ∀ k u, look k E0 = some u → look k E = some u ∧ (dstsL l).contains k = false := by
    intro k u hk
    rw [← hE0] at hk
    have := look_hide hk
    exact ⟨this.2, this.1⟩
  have hlen : l.toArray.size = l.length := by simp
  have hputg : ∀ (i : Nat) (o : Oper) (v : Value), l[i]? = some o → ∀ (b : Act), b.tmps.size = n → ∀ k, (b.put o.dst v).tmps[k]? = if o.dst = some k then some v else b.tmps[k]? := by
    intro i o v hol b hb k
    cases hd : o.dst with
    | none => simp [Act.put]
    | some d =>
      rw [put_get (by rw [hb]; exact hdstn i o d hol hd)]
      by_cases hkd : k = d
      · subst hkd; simp
      · rw [if_neg hkd, if_neg (by simpa using Ne.symm hkd)]
  -- what is known of a pending operation stays when another one is taken
  have hkeep : ∀ (lv : Array Bool) (a2 : Act) (i : Nat) (o : Oper) (v : Value), l[i]? = some o → a2.tmps.size = n → lv.getD i false = false → ∀ (j : Nat) (oj : Oper) (u : Value) (F : Env), l[j]? = some oj →
      PendF P n w0 l GJ E0 lv a2 oj u F → PendF P n w0 l GJ E0 (lv.setIfInBounds i true) (a2.put o.dst v) oj u F := by
    intro lv a2 i o v hol hn2 hlv j oj u F hoj hp
    refine ⟨fun k x hk => ?_, hp.2⟩
    rcases hp.1 k x hk with h1 | ⟨h1, e, he, hb, hl, o', ho', hd'⟩
    · exact .inl h1
    · refine .inr ⟨?_, e, he, hb, ?_, o', ho', hd'⟩
      · rw [hputg i o v hol a2 hn2, if_neg]
        · exact h1
        · intro h2
          have := hinj l hnod e.on i o' o k ho' hol hd' h2
          rw [this, hlv] at hl
          cases hl
      · by_cases h2 : e.on = i
        · rw [h2, hlv] at hl; cases hl
        · rw [getD_set_ne false (Ne.symm h2)]; exact hl
  have key : ∀ (m fuel' fv : Nat), fuel' + fv ≤ m → ∀ (listed lv : Array Bool) (a1 a2 : Act) (w1 : World), listed.size = l.length → lv.size = l.length → listed.toList.count false ≤ fuel' →
      (∀ i, i < l.length → listed.getD i false = true → lv.getD i false = true) →
      (∀ i, i < l.length → lv.getD i false = true → listed.getD i false = false → isSt st i = true) →
      wpV P n l st w0 GJ E0 Q fv lv a2 w1 → a1.tmps.size = n → a2.tmps.size = n → a1.defers = a2.defers → a1.defers = [] →
      (∀ (k : Nat), (∀ (i : Nat) (o : Oper), l[i]? = some o → lv.getD i false = true → listed.getD i false = false → o.dst ≠ some k) → a1.tmps[k]? = a2.tmps[k]?) →
      (∀ (i : Nat) (o : Oper), l[i]? = some o → lv.getD i false = true → listed.getD i false = false → ∃ d v F, o.dst = some d ∧ a2.tmps[d]? = some v ∧ PendF P n w0 l GJ E0 lv a2 o v F) →
      (∀ k u, look k E0 = some u → a1.tmps[k]? = some u) →
      ((∃ i, i < l.length ∧ isSt st i = true ∧ listed.getD i false = false) → JOK w0 GJ w1) →
      wpAny P .any l.toArray Q fuel' listed a1 w1 := by
    have hdone : ∀ (fv : Nat) (listed lv : Array Bool) (a1 a2 : Act) (w1 : World), listed.size = l.length → lv.size = l.length → Region.ready .any l.toArray listed = [] →
        (∀ i, i < l.length → listed.getD i false = true → lv.getD i false = true) →
        wpV P n l st w0 GJ E0 Q fv lv a2 w1 → a1.tmps.size = n → a2.tmps.size = n → a1.defers = a2.defers →
        (∀ (k : Nat), (∀ (i : Nat) (o : Oper), l[i]? = some o → lv.getD i false = true → listed.getD i false = false → o.dst ≠ some k) → a1.tmps[k]? = a2.tmps[k]?) → Q .normal a1 w1 := by
      intro fv listed lv a1 a2 w1 hls hlv hr hrel hw hn1 hn2 hdf hag
      have hall : ∀ i, i < l.length → listed.getD i false = true := by
        intro i
        induction i using Nat.strongRecOn with
        | _ i ih =>
          intro hi
          cases hli : listed.getD i false with
          | true => rfl
          | false =>
            exfalso
            have : i ∈ Region.ready .any l.toArray listed := by
              rw [mem_ready]
              refine ⟨?_, l[i], by simp [hi], fun e he hb => ?_⟩
              · have hi2 : i < listed.size := by omega
                simp [Array.getD, hi2] at hli ⊢
                exact hli
              · have := edgesB_spec hed i l[i] (by simp [hi]) e he hb
                exact ih e.on (by omega) (by omega)
            rw [hr] at this
            cases this
      have hlvall : Region.ready .any l.toArray lv = [] := by
        rw [List.eq_nil_iff_forall_not_mem]
        intro j hj
        obtain ⟨h0, o, ho, _⟩ := mem_ready.1 hj
        have hjl : j < l.length := by
          have := (Array.getElem?_eq_some_iff.1 ho).1
          simpa using this
        have := hrel j hjl (hall j hjl)
        simp [Array.getD, show j < lv.size by omega] at this h0
        rw [this] at h0
        cases h0
      have he : a1 = a2 := by
        obtain ⟨t1, d1⟩ := a1
        obtain ⟨t2, d2⟩ := a2
        simp only at hdf hn1 hn2 hag
        subst hdf
        congr 1
        apply Array.ext_getElem?
        intro k
        refine hag k (fun i o ho _ hli => ?_)
        have hi : i < l.length := (List.getElem?_eq_some_iff.1 ho).1
        rw [hall i hi] at hli
        cases hli
      rw [he]
      cases fv with
      | zero => exact hw.2
      | succ k =>
        rcases hw with hw | ⟨p, _, _, _, _, hp, _⟩
        · exact hw.1 hlvall
        · rw [hlvall] at hp; cases hp
    intro m
    induction m with
    | zero =>
      intro fuel' fv hm0 listed lv a1 a2 w1 hls hlv hc hrel hpen hw hn1 hn2 hdf hd0 hag hvv hE1 hJ
      obtain rfl : fuel' = 0 := by omega
      have hr : Region.ready .any l.toArray listed = [] := by
        rw [List.eq_nil_iff_forall_not_mem]
        intro j hj
        have := (mem_ready.1 hj).1
        have hj2 : j < listed.size := by
          cases Nat.lt_or_ge j listed.size with
          | inl h => exact h
          | inr h => simp [Array.getD, Nat.not_lt.2 h] at this
        have hmem : false ∈ listed.toList := by
          simp [Array.getD, hj2] at this
          rw [← this]
          simp
        have := List.count_pos_iff.2 hmem
        omega
      exact ⟨hr, hdone fv listed lv a1 a2 w1 hls hlv hr hrel hw hn1 hn2 hdf hag⟩
    | succ m ih =>
      intro fuel' fv hm1 listed lv a1 a2 w1 hls hlv hc hrel hpen hw hn1 hn2 hdf hd0 hag hvv hE1 hJ
      cases fuel' with
      | zero =>
        have hr : Region.ready .any l.toArray listed = [] := by
          rw [List.eq_nil_iff_forall_not_mem]
          intro j hj
          have := (mem_ready.1 hj).1
          have hj2 : j < listed.size := by
            cases Nat.lt_or_ge j listed.size with
            | inl h => exact h
            | inr h => simp [Array.getD, Nat.not_lt.2 h] at this
          have hmem : false ∈ listed.toList := by
            simp [Array.getD, hj2] at this
            rw [← this]
            simp
          have := List.count_pos_iff.2 hmem
          omega
        exact ⟨hr, hdone fv listed lv a1 a2 w1 hls hlv hr hrel hw hn1 hn2 hdf hag⟩
      | succ fuel' =>
      -- taken ahead of its time
      by_cases hvirt : ∃ fv', fv = fv' + 1 ∧ ∃ p o d v F, p ∈ Region.ready .any l.toArray lv ∧ l[p]? = some o ∧ o.dst = some d ∧ d < n ∧ isSt st p = true ∧ PendF P n w0 l GJ E0 lv a2 o v F ∧ wpV P n l st w0 GJ E0 Q fv' (lv.setIfInBounds p true) (a2.put (some d) v) w1
      · obtain ⟨fv', rfl, p, o, d, v, F, hp, hol, hd, hdn, hsp, hpf, hw'⟩ := hvirt
        obtain ⟨hp0, _, _, _⟩ := mem_ready.1 hp
        have hpl : p < l.length := (List.getElem?_eq_some_iff.1 hol).1
        have hlvp : lv.getD p false = false := by
          have : p < lv.size := by omega
          simp [Array.getD, this] at hp0 ⊢
          exact hp0
        have hlp : listed.getD p false = false := by
          cases hh : listed.getD p false with
          | false => rfl
          | true => rw [hrel p hpl hh] at hlvp; cases hlvp
        have hgs : ∀ j, (lv.setIfInBounds p true).getD j false = if j = p then true else lv.getD j false := by
          intro j
          by_cases hji : j = p
          · subst hji; simp [Array.getD, show j < lv.size by omega]
          · rw [getD_set_ne false (Ne.symm hji), if_neg hji]
        refine ih (fuel' + 1) fv' (by omega) listed (lv.setIfInBounds p true) a1 (a2.put (some d) v) w1 hls (by simp [hlv]) hc ?_ ?_ hw' hn1 (by show (a2.tmps.setIfInBounds d v).size = n; simp [hn2]) hdf hd0 ?_ ?_ hE1 hJ
        · intro i hi h1
          rw [hgs]
          split
          · rfl
          · exact hrel i hi h1
        · intro i hi h1 h2
          rw [hgs] at h1
          by_cases hip : i = p
          · rw [hip]; exact hsp
          · rw [if_neg hip] at h1; exact hpen i hi h1 h2
        · intro k hk
          rw [put_get (by rw [hn2]; exact hdn), if_neg]
          · refine hag k (fun i' o'' ho'' h1 h2 => hk i' o'' ho'' ?_ h2)
            rw [hgs]
            split
            · rfl
            · exact h1
          · intro e
            exact hk p o hol (by rw [hgs, if_pos rfl]) hlp (by rw [hd, e])
        · intro j oj hoj h1 h2
          by_cases hjp : j = p
          · subst hjp
            rw [hol] at hoj
            cases hoj
            refine ⟨d, v, F, hd, by rw [put_get (by rw [hn2]; exact hdn), if_pos rfl], ?_⟩
            have := hkeep lv a2 j o v hol hn2 hlvp j o v F hol hpf
            rwa [hd] at this
          · rw [hgs, if_neg hjp] at h1
            obtain ⟨d', v', F', e1, e2, e3⟩ := hvv j oj hoj h1 h2
            refine ⟨d', v', F', e1, ?_, ?_⟩
            · rw [put_get (by rw [hn2]; exact hdn), if_neg]
              · exact e2
              · intro e
                subst e
                exact hjp (hinj l hnod j p oj o d' hoj hol e1 hd)
            · have := hkeep lv a2 p o v hol hn2 hlvp j oj v' F' hoj e3
              rwa [hd] at this
      have hns : noSt st (Region.ready .any l.toArray lv) = true := by
        cases fv with
        | zero => rw [hw.1]; rfl
        | succ k =>
          rcases hw with hw | hw
          · exact hw.2.1
          · exact absurd ⟨k, rfl, hw⟩ hvirt
      refine ⟨fun hr => hdone fv listed lv a1 a2 w1 hls hlv hr hrel hw hn1 hn2 hdf hag, fun i hi => ?_⟩
      obtain ⟨hi0, o, ho, hall⟩ := mem_ready.1 hi
      have hol : l[i]? = some o := by simpa using ho
      have hil : i < l.length := (List.getElem?_eq_some_iff.1 hol).1
      have hi1 : i < listed.size := by omega
      have hli : listed.getD i false = false := by
        simp [Array.getD, hi1] at hi0 ⊢
        exact hi0
      have hsetsz : (listed.setIfInBounds i true).size = l.length := by simp [hls]
      have hcount : (listed.setIfInBounds i true).toList.count false ≤ fuel' := by
        rw [Array.toList_setIfInBounds]
        have hf : listed.toList[i]'(by simpa using hi1) = false := by
          simp [Array.getD, hi1] at hi0
          simpa using hi0
        rw [List.count_set (h := by simpa using hi1), hf]
        have : 0 < listed.toList.count false := List.count_pos_iff.2 (by rw [← hf]; exact List.getElem_mem _)
        simp
        have e : listed.toList.count false = Array.count false listed := by simp [Array.count_toList]
        omega
      have hgetset : ∀ j, (listed.setIfInBounds i true).getD j false = if j = i then true else listed.getD j false := by
        intro j
        by_cases hji : j = i
        · subst hji; simp [Array.getD, hi1]
        · rw [getD_set_ne false (Ne.symm hji), if_neg hji]
      have hready : lv.getD i false = false → i ∈ Region.ready .any l.toArray lv := by
        intro hlvi
        rw [mem_ready]
        refine ⟨?_, o, ho, fun e he hb => ?_⟩
        · simp [Array.getD, show i < lv.size by omega] at hlvi ⊢
          exact hlvi
        · have hon : e.on < l.length := by
            have := edgesB_spec hed i o hol e he hb
            omega
          exact hrel e.on hon (hall e he hb)
      unfold wpOp
      rw [ho]
      dsimp only
      cases hsti : isSt st i with
      | true =>
        have hlvi : lv.getD i false = true := by
          cases hh : lv.getD i false with
          | true => rfl
          | false =>
            have := List.all_eq_true.1 hns i (hready hh)
            rw [hsti] at this
            cases this
        obtain ⟨d, v, F, hd, hv, hpf⟩ := hvv i o hol hlvi hli
        have hdn := hdstn i o d hol hd
        have hJw := hJ ⟨i, hil, hsti, hli⟩
        have hS1 : S n w0 F GJ a1 w1 := by
          refine ⟨hn1, hd0, fun k u hk => ?_, hJw⟩
          rcases hpf.1 k u hk with hk | ⟨hk, e, he, hb, _, o', ho', hd'⟩
          · exact hE1 k u hk
          · rw [hag k (fun i' o'' ho'' _ hl'' hd'' => ?_)]
            · exact hk
            · have := hinj l hnod i' e.on o'' o' k ho'' ho' hd'' hd'
              subst this
              rw [hall e he hb] at hl''
              cases hl''
        have hrun := hpf.2 _ (fun k u hk => hk) a1 w1 hS1
        have hnext : wpAny P .any l.toArray Q fuel' (listed.setIfInBounds i true) (a1.put o.dst v) w1 := by
          rw [hd]
          refine ih fuel' fv (by omega) _ lv _ a2 w1 hsetsz hlv hcount ?_ ?_ hw (by show (a1.tmps.setIfInBounds d v).size = n; simp [hn1]) hn2 hdf hd0 ?_ ?_ ?_ ?_
          · intro j hj h1
            rw [hgetset] at h1
            by_cases hji : j = i
            · rw [hji]; exact hlvi
            · rw [if_neg hji] at h1; exact hrel j hj h1
          · intro j hj h1 h2
            rw [hgetset] at h2
            by_cases hji : j = i
            · rw [if_pos hji] at h2; cases h2
            · rw [if_neg hji] at h2; exact hpen j hj h1 h2
          · intro k hk
            rw [put_get (by rw [hn1]; exact hdn)]
            by_cases hkd : k = d
            · subst hkd
              rw [if_pos rfl, hv]
            · rw [if_neg hkd]
              refine hag k (fun i' o'' ho'' hs'' hl'' hd'' => ?_)
              by_cases hii : i' = i
              · subst hii
                rw [hol] at ho''
                cases ho''
                rw [hd] at hd''
                exact hkd (by simpa using hd''.symm)
              · exact hk i' o'' ho'' hs'' (by rw [hgetset, if_neg hii]; exact hl'') hd''
          · intro j oj hoj h1 h2
            rw [hgetset] at h2
            by_cases hji : j = i
            · rw [if_pos hji] at h2; cases h2
            · rw [if_neg hji] at h2; exact hvv j oj hoj h1 h2
          · intro k u hk
            rw [put_get (by rw [hn1]; exact hdn), if_neg]
            · exact hE1 k u hk
            · intro e
              subst e
              have := (hE0le k u hk).2
              rw [hdin i o k hol hd] at this
              cases this
          · intro _
            exact hJw
        by_cases hwt : Region.wanted o (yielded l.toArray a1.tmps) = true
        · rw [if_pos hwt] at hrun ⊢
          refine .inl ?_
          unfold Oper.wp
          rw [hrun]
          exact hnext
        · rw [if_neg hwt] at hrun ⊢
          rw [← hrun]
          exact hnext
      | false =>
        have hmi := all_range hmx hil
        simp only [hol, hsti, Bool.false_or, Bool.and_eq_true] at hmi
        have hsel : ∀ cs b, o.op ≠ .select cs b := by
          intro cs b e
          rw [e] at hmi
          cases hmi.1
        have hlk : ∀ k ∈ o.looksAt l.toArray, a1.tmps[k]? = a2.tmps[k]? := by
          intro k hk
          refine hag k (fun j oj hoj hvj hlj hdj => ?_)
          have hjl : j < l.length := (List.getElem?_eq_some_iff.1 hoj).1
          have hsj := hpen j hjl hvj hlj
          have h1 := List.all_eq_true.1 hmi.2 k hk
          have h2 := all_range h1 hjl
          simp only [hsj, Bool.not_true, Bool.false_or, hoj, hdj, Bool.or_eq_true] at h2
          rcases h2 with h2 | h2
          · simp only [bindsOn, List.any_eq_true, Bool.and_eq_true, beq_iff_eq] at h2
            obtain ⟨e, he, hb, hon⟩ := h2
            have := hall e (by simpa using he) hb
            rw [hon, hlj] at this
            cases this
          · simp at h2
        obtain ⟨hex, hwa⟩ := exec_agree hsel hlk
        have hlvi : lv.getD i false = false := by
          cases hh : lv.getD i false with
          | false => rfl
          | true =>
            rw [hpen i hil hh hli] at hsti
            cases hsti
        have hiv := hready hlvi
        cases fv with
        | zero => rw [hw.1] at hiv; cases hiv
        | succ fv =>
          have hstep : wpList P l.toArray (Exit.then (fun a' w' => a'.defers = [] ∧ (needJ st l.length o = true → JOK w0 GJ w') ∧ wpV P n l st w0 GJ E0 Q fv (lv.setIfInBounds i true) a' w') QF) [o] a2 w1 := by
            rcases hw with hw | hw
            · exact hw.2.2 i hiv o hol
            · exact absurd ⟨fv, rfl, hw⟩ hvirt
          unfold wpList at hstep
          have hcont : ∀ (v : Value) (w' : World), wpList P l.toArray (Exit.then (fun a' w' => a'.defers = [] ∧ (needJ st l.length o = true → JOK w0 GJ w') ∧ wpV P n l st w0 GJ E0 Q fv (lv.setIfInBounds i true) a' w') QF) [] (a2.put o.dst v) w' →
              wpAny P .any l.toArray Q fuel' (listed.setIfInBounds i true) (a1.put o.dst v) w' := by
            intro v w' hq
            unfold wpList at hq
            obtain ⟨_, hq1, hq2⟩ : (a2.put o.dst v).defers = [] ∧ (needJ st l.length o = true → JOK w0 GJ w') ∧ wpV P n l st w0 GJ E0 Q fv (lv.setIfInBounds i true) (a2.put o.dst v) w' := hq
            have hsz : ∀ (b : Act), b.tmps.size = n → (b.put o.dst v).tmps.size = n := by
              intro b hb
              cases hd : o.dst with
              | none => exact hb
              | some d => show (b.tmps.setIfInBounds d v).size = n; simp [hb]
            have hdef : ∀ (b : Act), (b.put o.dst v).defers = b.defers := by
              intro b
              cases o.dst <;> rfl
            have hputk : ∀ (b : Act), b.tmps.size = n → ∀ k, (b.put o.dst v).tmps[k]? = if o.dst = some k then some v else b.tmps[k]? := by
              intro b hb k
              cases hd : o.dst with
              | none => simp [Act.put]
              | some d =>
                rw [put_get (by rw [hb]; exact hdstn i o d hol hd)]
                by_cases hkd : k = d
                · subst hkd; simp
                · rw [if_neg hkd, if_neg (by simpa using Ne.symm hkd)]
            have hgs : ∀ j, (lv.setIfInBounds i true).getD j false = if j = i then true else lv.getD j false := by
              intro j
              by_cases hji : j = i
              · subst hji; simp [Array.getD, show j < lv.size by omega]
              · rw [getD_set_ne false (Ne.symm hji), if_neg hji]
            refine ih fuel' fv (by omega) _ (lv.setIfInBounds i true) _ (a2.put o.dst v) w' hsetsz (by simp [hlv]) hcount ?_ ?_ hq2 (hsz a1 hn1) (hsz a2 hn2) (by rw [hdef, hdef]; exact hdf) (by rw [hdef]; exact hd0) ?_ ?_ ?_ ?_
            · intro j hj h1
              rw [hgetset] at h1
              rw [hgs]
              by_cases hji : j = i
              · rw [if_pos hji]
              · rw [if_neg hji] at h1 ⊢; exact hrel j hj h1
            · intro j hj h1 h2
              rw [hgetset] at h2
              rw [hgs] at h1
              by_cases hji : j = i
              · rw [if_pos hji] at h2; cases h2
              · rw [if_neg hji] at h1 h2; exact hpen j hj h1 h2
            · intro k hk
              rw [hputk a1 hn1, hputk a2 hn2]
              split
              · rfl
              · refine hag k (fun i' o'' ho'' hs'' hl'' hd'' => ?_)
                by_cases hii : i' = i
                · subst hii; rw [hlvi] at hs''; cases hs''
                · exact hk i' o'' ho'' (by rw [hgs, if_neg hii]; exact hs'') (by rw [hgetset, if_neg hii]; exact hl'') hd''
            · intro j oj hoj h1 h2
              rw [hgetset] at h2
              rw [hgs] at h1
              by_cases hji : j = i
              · rw [if_pos hji] at h2; cases h2
              · rw [if_neg hji] at h1 h2
                obtain ⟨d', v', F', e1, e2, e3⟩ := hvv j oj hoj h1 h2
                refine ⟨d', v', F', e1, ?_, hkeep lv a2 i o v hol hn2 hlvi j oj v' F' hoj e3⟩
                rw [hputk a2 hn2, if_neg]
                · exact e2
                · intro e
                  exact hji (hinj l hnod j i oj o d' hoj hol e1 e)
            · intro k u hk
              rw [hputk a1 hn1, if_neg]
              · exact hE1 k u hk
              · intro e
                have := (hE0le k u hk).2
                rw [hdin i o k hol e] at this
                cases this
            · rintro ⟨j, hjl, hsj, hlj⟩
              refine hq1 ?_
              unfold needJ
              rw [List.any_eq_true]
              refine ⟨j, List.mem_range.2 hjl, ?_⟩
              rw [hsj, Bool.true_and]
              cases hbo : bindsOn o j with
              | false => rfl
              | true =>
                exfalso
                simp only [bindsOn, List.any_eq_true, Bool.and_eq_true, beq_iff_eq] at hbo
                obtain ⟨e, he, hb, hon⟩ := hbo
                have h4 := hall e (by simpa using he) hb
                rw [hgetset] at hlj
                by_cases hji : j = i
                · rw [if_pos hji] at hlj; cases hlj
                · rw [if_neg hji, ← hon, h4] at hlj; cases hlj
          rw [← hwa] at hstep
          by_cases hwt : Region.wanted o (yielded l.toArray a1.tmps) = true
          · rw [if_pos hwt] at hstep ⊢
            rcases hstep with hstep | ⟨_, _, _, hf⟩
            · refine .inl ?_
              unfold Oper.wp at hstep ⊢
              rw [hex]
              generalize (execOp a2.eval o).run P w1 = r at hstep
              cases r with
              | ok nx w' =>
                cases nx <;> simp only [Oper.upon] at hstep ⊢
                all_goals first
                  | exact hcont _ _ hstep
                  | exact hstep.elim
                  | (refine Calls.mono hstep ?_; rintro e w'' he; cases e with | returned v => exact hcont _ _ he | panicked c => exact he.elim | outgrown => (obtain ⟨_, _, hf⟩ := he; exact hf.elim))
                  | (refine Rows.mono hstep ?_; intro v w'' he; exact hcont _ _ he)
                  | skip
                case defer dd =>
                  exfalso
                  unfold wpList at hstep
                  obtain ⟨h9, _⟩ : ((({ a2 with defers := dd :: a2.defers } : Act).put o.dst undef).defers = []) ∧ _ := hstep
                  cases hdo : o.dst <;> rw [hdo] at h9 <;> simp [Act.put] at h9
              | halt x w' =>
                cases x <;> simp only [Oper.upon] at hstep ⊢
                all_goals first | exact hstep.elim | exact (hstep : False).elim
            · exact hf.elim
          · rw [if_neg hwt] at hstep ⊢
            exact hcont _ _ hstep
  refine (key _ _ fuel (Nat.le_refl _) _ (List.replicate l.length false).toArray a a _ (by simp) (by simp) ?_ ?_ ?_ ?_ hs.size hs.size rfl hs.defers (fun _ _ => rfl) ?_ ?_ ?_)
  · simp [List.count_replicate]
  · intro i hi h1
    simp [Array.getD] at h1
  · intro i hi h1
    simp [Array.getD] at h1
  · exact h a _ (hs.world hs.new.drew)
  · intro i o ho h1
    simp [Array.getD] at h1
  · intro k u hk
    exact hs.env k u (hE0le k u hk).1
  · intro _
    exact hs.new.drew.sub hGJ
theorem TC.mixV {id : Nat} {l : List Oper} (st : List Bool) (GJ : Heap) (fuel : Nat) (hm : P.follows .mixedOrders = true) (hst : st.length = l.length) (hnd : nodupB (dstsL l) = true) (hed : edgesB l 0 l = true) (hmx : mixB l st = true)
    (hds : (List.range l.length).all (fun i => match l[i]? with | some o => (match o.dst with | some d => decide (d < n) | none => true) | none => true) = true)
    (hGJ : List.Sublist GJ G) (h : TV P n w0 l st GJ (hide (dstsL l) E) Q fuel (List.replicate l.length false) E G) : TC P n w0 (.region id l.toArray true) Q E G := fun a w hs => wp_region_any hm (mixV_any st GJ fuel hm hst hnd hed hmx hds hGJ h a w hs)
end
end Go.Sx
namespace Go.Sx
open Go.RowKit Go.Proofs.YtbnjmkidbfmomaaGreatDoor
section
variable {P : Program} {n : Nat} {w0 : World} {E : Env} {G : Heap} {Q : Exit → Act → World → Prop} {c c1 body : Code} {J : Act → World → Prop} {K : Act → World → Prop}
theorem TC.scope (h : TC P n w0 c (Exit.noGoto Q) E G) : TC P n w0 (.scope c) Q E G := fun a w hs => wp_scope_straight (h a w hs)
theorem TC.label {l : Nat} (h : TQ n w0 (Q .normal) E G) : TC P n w0 (.label l) Q E G := fun a w hs => wp_label (h a w hs)
theorem TC.goto {l : Nat} (h : TQ n w0 (Q (.goto l)) E G) : TC P n w0 (.goto l) Q E G := fun a w hs => wp_goto (h a w hs)
theorem TQ.scR (h : TQ n w0 (Q .ret) E G) : TQ n w0 (Exit.noGoto Q .ret) E G := h
theorem TQ.jmR {l : Nat} (h : TQ n w0 (Q .ret) E G) : TQ n w0 (Exit.jump l J Q .ret) E G := h
theorem TQ.jmG {l : Nat} (h : TQ n w0 J E G) : TQ n w0 (Exit.jump l J Q (.goto l)) E G := fun a w hs => ⟨rfl, h a w hs⟩
theorem TQ.thenGo {l : Nat} (h : TQ n w0 (Q (.goto l)) E G) : TQ n w0 (Exit.then K Q (.goto l)) E G := h
theorem TQ.blkG {l i : Nat} (h : TQ n w0 (Q (.goto l)) E G) : TQ n w0 (Exit.inBlock i Q (.goto l)) E G := h
theorem TC.scopeJ {l : Nat} (keep : List Nat) {X : Type} (F : X → Prop) (U : X → Env) (D : X → Heap) (m : X → Nat) (hf : findLabel (.seq c1 (.seq (.label l) body)) l = some (.seq .skip body))
    (h1 : TC P n w0 c1 (Exit.then (Mid n w0 F (fun x => U x ++ pick keep E) D) (Exit.jump l (fun _ _ => False) Q)) E G)
    (hb : ∀ x, F x → TC P n w0 body (Exit.jump l (Back n w0 F (fun x => U x ++ pick keep E) D m (m x)) Q) (U x ++ pick keep E) (D x)) : TC P n w0 (.scope (.seq c1 (.seq (.label l) body))) Q E G := by
  intro a w hs
  let I : Act → World → Prop := Mid n w0 F (fun x => U x ++ pick keep E) D
  let R : Act → World → Nat → Prop := fun a w k => ∃ x, F x ∧ m x ≤ k ∧ S n w0 (U x ++ pick keep E) (D x) a w
  have hmin : ∀ a w, I a w → ∃ k, R a w k ∧ ∀ j, R a w j → k ≤ j := by
    intro a w ⟨x, hF, hS⟩
    have : ∀ N, (∃ k, k ≤ N ∧ R a w k) → ∃ k, R a w k ∧ ∀ j, R a w j → k ≤ j := by
      intro N
      induction N with
      | zero => rintro ⟨k, hk, hR⟩; exact ⟨k, hR, fun j _ => by omega⟩
      | succ N ih =>
        rintro ⟨k, hk, hR⟩
        by_cases h : ∃ k, k ≤ N ∧ R a w k
        · exact ih h
        · refine ⟨k, hR, fun j hj => ?_⟩
          by_cases hjk : k ≤ j
          · exact hjk
          · exact absurd ⟨j, by omega, hj⟩ h
    exact this (m x) ⟨m x, Nat.le_refl _, x, hF, Nat.le_refl _, hS⟩
  let mu : Act → World → Nat := fun a w => open Classical in if h : I a w then Classical.choose (hmin a w h) else 0
  have hmu : ∀ a w (h : I a w), R a w (mu a w) ∧ ∀ j, R a w j → mu a w ≤ j := by
    intro a w h
    have := Classical.choose_spec (hmin a w h)
    simp only [mu, dif_pos h]
    exact this
  have hpass : ∀ a w, I a w → body.wp P (Exit.jump l (fun a' w' => I a' w' ∧ mu a' w' < mu a w) Q) a w := by
    intro a w hI
    obtain ⟨⟨x, hF, hx, hS⟩, _⟩ := hmu a w hI
    refine wp_mono (hb x hF a w hS) fun e a' w' h => ?_
    cases e <;> first | exact h | skip
    obtain ⟨hl, y, hFy, hy, hSy⟩ := h
    have hIy : I a' w' := ⟨y, hFy, hSy⟩
    refine ⟨hl, hIy, ?_⟩
    have := (hmu a' w' hIy).2 (m y) ⟨y, hFy, Nat.le_refl _, hSy⟩
    omega
  refine wp_scope_jumps l I mu hf ?_ ?_
  · refine wp_seq (wp_mono (h1 a w hs) fun e a' w' h => ?_)
    cases e with
    | normal =>
      refine wp_seq (wp_label ?_)
      exact wp_mono (hpass a' w' h) fun e a2 w2 h2 => by
        cases e <;> first | exact h2 | exact ⟨h2.1, h2.2.1⟩
    | goto i => exact h.2.elim
    | exit i => exact h
    | ret => exact h
    | panic ch => exact h
    | outgrown => exact h
  · intro a w hI
    exact wp_seq (wp_skip (hpass a w hI))
end
theorem Upd.mid {b : Nat} {o o'' : Obj} (o' : Obj) {G G' : Heap} (h : Upd b o o'' G G') : ∃ G1, Upd b o o' G G1 ∧ Upd b o' o'' G1 G' := by
  induction h with
  | head R => exact ⟨_, Upd.head R, Upd.head R⟩
  | tail p _ ih =>
    obtain ⟨G1, h1, h2⟩ := ih
    exact ⟨p :: G1, Upd.tail p h1, Upd.tail p h2⟩
theorem Upd.self {b : Nat} {o : Obj} {G G' : Heap} (h : Upd b o o G G') : G' = G := by
  induction h with
  | head => rfl
  | tail _ _ ih => rw [ih]
def putA (arr : Array Value) (o : Nat) : List Value → Array Value
  | [] => arr
  | c :: cs => putA (arr.setIfInBounds o c) (o + 1) cs
theorem putA_list : ∀ (cs : List Value) (o : Nat) (arr : List Value), o + cs.length ≤ arr.length → (putA arr.toArray o cs).toList = arr.take o ++ cs ++ arr.drop (o + cs.length)
  | [], o, arr, _ => by simp [putA]
  | c :: cs, o, arr, h => by
    simp only [List.length_cons] at h
    unfold putA
    rw [List.setIfInBounds_toArray, putA_list cs (o + 1) (arr.set o c) (by rw [List.length_set]; omega), List.take_add_one, List.getElem?_set_self (by omega), List.take_set_of_le (Nat.le_refl _), List.drop_set_of_lt (by omega)]
    simp only [Option.toList_some, List.append_assoc, List.singleton_append, List.cons_append, List.nil_append, List.length_cons]
    rw [show o + 1 + cs.length = o + (cs.length + 1) by omega]
theorem New.setCells {w0 : World} {b : Nat} {e : TypeId} : ∀ (cs : List Value) (o : Nat) (arr : Array Value) (w : World) (G G' : Heap), New w0 w G → Upd b (.cells arr e (0, 0)) (.cells (putA arr o cs) e (0, 0)) G G' → New w0 (w.setCells b o cs) G'
  | [], o, arr, w, G, G', hN, hu => by
    rw [hu.self]
    exact hN
  | c :: cs, o, arr, w, G, G', hN, hu => by
    obtain ⟨G1, h1, h2⟩ := hu.mid (.cells (arr.setIfInBounds o c) e (0, 0))
    exact New.setCells cs (o + 1) _ _ _ _ (hN.setCell h1) h2
section
variable {P : Program} {n : Nat} {w0 : World} {E : Env} {G : Heap} {ty : TypeId} {pos : String} {aft : Array Edge} {g : Option (Nat × Bool)} {ops : Array Oper} {Q : Exit → Act → World → Prop} {l : List Oper}
theorem TL.copyI {d : Nat} {x y : Operand} {b len cap cl t1 t2 e eb : Nat} {p : Option Addr} {xs : List Int} {arr : Array Value} {G' : Heap} (hx : evo E x = some (.slice (some ⟨b, 0, none⟩) len cap)) (hy : evo E y = some (.slice p xs.length cl))
    (ht : P.underlying t1 = some (.slice e)) (hsz : (P.info? e).map (·.size) = some 1) (hi : IntsAt w0 p xs) (hl : xs.length ≤ len) (ha : len ≤ arr.size)
    (hu : Upd b (.cells arr eb (0, 0)) (.cells (putA arr 0 (xs.map (Value.int .i64))) eb (0, 0)) G G') (hg : wants ops E g = some true) (hd : d < n)
    (h : TL P n w0 ops Q l ((d, .int .i64 xs.length) :: E) G') :
    TL P n w0 ops Q (⟨some d, .call { callee := .builtin .copy, args := #[x, y], argTypes := #[t1, t2] }, ty, pos, aft, g⟩ :: l) E G :=
  TL.step hg fun a w hs => by
    have hrun : ∃ w', (Builtin.copy_ #[t1, t2] ty #[.slice (some ⟨b, 0, none⟩) len cap, .slice p xs.length cl]).run P w = .ok (.int .i64 xs.length) w' ∧ New w0 w' G' := by
      cases xs with
      | nil =>
        refine ⟨w, ?_, ?_⟩
        · have := run_copy_none (P := P) w t1 t2 ty e (some ⟨b, 0, none⟩) p len cap 0 cl ht hsz (by simp)
          simpa [goInt] using this
        · have hu' : Upd b (.cells arr eb (0, 0)) (.cells arr eb (0, 0)) G G' := hu
          rw [hu'.self]
          exact hs.new
      | cons v vs =>
        obtain ⟨q, rfl, _⟩ := hi 0 (by simp)
        have hc : ∀ j, j < ((v :: vs).map (Value.int .i64)).length → ∃ u, w.cell? ⟨b, 0 + j, none⟩ = some u := fun j hj => ⟨_, hs.new.cell hu.mem (Array.getElem?_eq_getElem (by simp only [List.length_map, List.length_cons] at hj hl; omega))⟩
        refine ⟨_, ?_, New.setCells _ 0 arr w G G' hs.new hu⟩
        have := run_copy_cells (P := P) w t1 t2 ty e b 0 len cap q (v :: vs).length cl ((v :: vs).map (Value.int .i64)) ht hsz (by rw [List.length_map]; exact (Nat.min_eq_left hl).symm) (fun j u hj => by
            have hj2 : j < (v :: vs).length := by have := (List.getElem?_eq_some_iff.1 hj).1; simpa using this
            obtain ⟨q2, e2, h2⟩ := (hi.new hs.new) j hj2
            cases e2
            rw [Nat.mul_one] at h2
            rw [h2]
            rw [List.getElem?_map, List.getElem?_eq_getElem hj2] at hj
            simp only [Option.map_some, Option.some.injEq] at hj
            rw [← hj, show (v :: vs).getD j 0 = (v :: vs)[j] by rw [List.getD_eq_getElem?_getD, List.getElem?_eq_getElem hj2]; rfl])
          (fun j hj => by obtain ⟨u, hu2⟩ := hc j hj; rw [hu2]; rfl) (fun j _ => hs.new.frozen hu.mem) (fun u hu2 => by obtain ⟨i, _, rfl⟩ := List.mem_map.1 hu2; rfl)
        rw [this]
        simp [goInt]
    obtain ⟨w', hr, hN⟩ := hrun
    have hex : (execOp a.eval ⟨some d, .call { callee := .builtin .copy, args := #[x, y], argTypes := #[t1, t2] }, ty, pos, aft, g⟩).run P w = .ok (.value (.int .i64 xs.length)) w' := by
      simp only [execOp, resolve, List.map_toArray, List.map_cons, List.map_nil, hs.ev hx, hs.ev hy]
      simp [invoke, builtin, hr]
    unfold Oper.wp
    rw [hex]
    exact h _ _ ((hs.world hN).put hd _)
end
abbrev boolsA (bs : List Bool) : Array Value := (bs.map Value.bool).toArray
theorem boolsA_get {bs : List Bool} {j : Nat} (h : j < bs.length) : (boolsA bs)[j]? = some (.bool (bs.getD j false)) := by
  simp [boolsA, List.getD, h]
theorem boolsA_set (bs : List Bool) (j : Nat) (v : Bool) : (boolsA bs).setIfInBounds j (.bool v) = boolsA (bs.set j v) := by
  simp [boolsA, List.map_set]
theorem boolsA_size (bs : List Bool) : (boolsA bs).size = bs.length := by simp [boolsA]
theorem boolsA_replicate (k : Nat) (v : Bool) : (List.replicate k (Value.bool v)).toArray = boolsA (List.replicate k v) := by simp [boolsA]
section
variable {P : Program} {n : Nat} {w0 : World} {E : Env} {G : Heap} {ty : TypeId} {pos : String} {aft : Array Edge} {g : Option (Nat × Bool)} {ops : Array Oper} {Q : Exit → Act → World → Prop} {l : List Oper}
theorem PV.loadB {d : Option Nat} {x : Operand} {b j : Nat} {t : Nat} {bs : List Bool} {e : TypeId} {fr : Nat × Nat} (hx : evo E x = some (.pointer (some ⟨b, j, none⟩))) (ht : oneB P t = true)
    (hm : (b, Obj.cells (boolsA bs) e fr) ∈ G) (hj : j < bs.length) :
    PV P n w0 E G ⟨d, .load t x, ty, pos, aft, g⟩ (.bool (bs.getD j false)) := PV.loadG' hx ht hm (boolsA_get hj)
theorem TL.storeB {dd : Option Nat} {x y : Operand} {b j : Nat} {t : Nat} {bs : List Bool} {e : TypeId} {v : Bool} {G' : Heap} (hx : evo E x = some (.pointer (some ⟨b, j, none⟩))) (hy : evo E y = some (.bool v))
    (hsz : cellsN P t = some 1) (hu : Upd b (.cells (boolsA bs) e (0, 0)) (.cells (boolsA (bs.set j v)) e (0, 0)) G G') (hlt : j < bs.length)
    (hg : wants ops E g = some true) (hdd : dd = none) (h : TL P n w0 ops Q l E G') : TL P n w0 ops Q (⟨dd, .store t x y, ty, pos, aft, g⟩ :: l) E G :=
  TL.store (cs := boolsA bs) hx hy hsz rfl (by rw [boolsA_set]; exact hu) (by rw [boolsA_size]; exact hlt) hg hdd h
theorem TL.makeB {d : Nat} {x y : Operand} {t e : Nat} {by_ k : Nat} {i : Int} (hx : evo E x = some (.int .i64 i)) (hy : evo E y = some (.int .i64 i)) (ht : P.underlying t = some (.slice e))
    (hz : zeroI P e = some (.bool false, 1, by_)) (hi : i = (k : Int)) (hk : by_ * k ≤ 281474976710656) (hk2 : k ≤ 9223372036854775807) (hg : wants ops E g = some true) (hd : d < n)
    (h : ∀ b, w0.heap.size ≤ b → TL P n w0 ops Q l ((d, .slice (some ⟨b, 0, none⟩) k k) :: E) ((b, .cells (boolsA (List.replicate k false)) e (0, 0)) :: G)) :
    TL P n w0 ops Q (⟨some d, .makeSlice t x y, ty, pos, aft, g⟩ :: l) E G :=
  TL.make hx hy ht hz rfl hi hk hk2 hg hd (fun b hb => by rw [boolsA_replicate]; exact h b hb)
end
def undoneB (ops : Array Oper) (E : Env) : Option (Nat × Bool) → Bool
  | none => false
  | some (j, _) => match (ops[j]?).bind (·.dst) with
    | none => false
    | some s => match Sx.look s E with
      | some (.tuple _) => true
      | _ => false
section
variable {P : Program} {n : Nat} {w0 : World} {E : Env} {G : Heap} {a : Act} {w : World} {ops : Array Oper} {Q : Exit → Act → World → Prop} {l : List Oper}
theorem S_undone (h : S n w0 E G a w) {o : Oper} (hw : undoneB ops E o.guard = true) : Region.wanted o (yielded ops a.tmps) = false := by
  unfold Region.wanted
  cases hg : o.guard with
  | none => simp [undoneB, hg] at hw
  | some jw =>
    obtain ⟨j, want⟩ := jw
    simp only [undoneB, hg] at hw
    simp only [yielded]
    cases hs : (ops[j]?).bind (·.dst) with
    | none => simp [hs] at hw
    | some s =>
      simp only [hs] at hw
      cases hl : Sx.look s E with
      | none => simp [hl] at hw
      | some v =>
        have := h.env s v hl
        rw [hl] at hw
        cases v <;> first | (simp [this]; done) | simp at hw
theorem TL.skipU {d : Option Nat} {op : Op} {ty : TypeId} {pos : String} {aft : Array Edge} {g : Option (Nat × Bool)}
    (hg : undoneB ops E g = true) (hd : ∀ k, d = some k → k < n) (h : TL P n w0 ops Q l (match d with | some k => (k, undef) :: E | none => E) G) :
    TL P n w0 ops Q (⟨d, op, ty, pos, aft, g⟩ :: l) E G := by
  intro a w hs
  unfold wpList
  have := S_undone hs (o := ⟨d, op, ty, pos, aft, g⟩) hg
  rw [if_neg (by simp [this])]
  cases d with
  | none => exact h _ _ hs
  | some k => exact h _ _ (hs.put (hd k rfl) undef)
theorem OpOK.skipU {d : Nat} {op : Op} {ty : TypeId} {pos : String} {aft : Array Edge} {g : Option (Nat × Bool)} (hg : undoneB ops E g = true) :
    OpOK P n w0 ops Q G E ⟨some d, op, ty, pos, aft, g⟩ d undef := by
  intro F' hF a w hs
  have := S_undone (hs.env_le hF) (o := ⟨some d, op, ty, pos, aft, g⟩) hg
  rw [if_neg (by simp [this])]
end
end Go.Sx
