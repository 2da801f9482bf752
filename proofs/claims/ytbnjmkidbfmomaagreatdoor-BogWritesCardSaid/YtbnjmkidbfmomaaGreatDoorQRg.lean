/- Regions that draw their order, in a round or with deferred calls. -/
import Derived.Test.YtbnjmkidbfmomaaGreatDoorQSz
import Derived.Test.YtbnjmkidbfmomaaGreatDoorQRf
import Derived.OrdersIn
set_option linter.unusedVariables false
set_option linter.unusedSimpArgs false
namespace Go.Sx
open Go.RowKit

theorem any_in {P : Program} {r : Option Nat} {ds : List Deferred} {m : Nat} {md : Region.Mode} {ops : Array Oper} {Q : Exit → Act → World → Prop} (hlo : ¬ LetsOut Q) (hn : ops.toList.all noDefer = true) : ∀ (fuel : Nat) (listed : Array Bool) (a : Act) (w : World),
    wpAny P md ops (QD ds Q) fuel listed a w → wpAnyIn (FR r) m P md ops Q fuel listed (dfs a ds) w
  | 0, listed, a, w, h => h
  | fuel + 1, listed, a, w, h => ⟨h.1, fun i hi => by
    have h2 := h.2 i hi
    unfold wpOp at h2
    unfold wpOpIn
    cases ho : ops[i]? with
    | none => simp only [ho] at h2; exact any_in hlo hn fuel _ a w h2
    | some o =>
      simp only [ho] at h2
      have hno : noDefer o = true := by
        rw [List.all_eq_true] at hn
        obtain ⟨hlt, he⟩ := Array.getElem?_eq_some_iff.1 ho
        exact hn o (by rw [← he]; simp)
      rw [show (dfs a ds).tmps = a.tmps from rfl]
      by_cases hw : Region.wanted o (yielded ops a.tmps) = true
      · rw [if_pos hw] at h2
        simp only [hw, if_true]
        rcases h2 with h2 | ⟨_, a', w3, h3⟩
        · exact oper_in hno (fun a w h => any_in hlo hn fuel _ a w h) h2
        · exact absurd ⟨_, _, h3⟩ hlo
      · rw [if_neg hw] at h2
        simp only [hw]
        refine ⟨fun _ _ => trivial, ?_⟩
        rw [dfs_put]
        exact any_in hlo hn fuel _ _ w h2⟩
section
variable {P : Program} {n : Nat} {w0 : World} {E : Env} {G : Heap} {Q : Exit → Act → World → Prop}
theorem mix_any {l : List Oper} (st : List Bool) (GJ : Heap) (fuel : Nat) (hm : P.follows .mixedOrders = true) (hst : st.length = l.length) (hnd : nodupB (dstsL l) = true) (hed : edgesB l 0 l = true) (hmx : mixB l st = true)
    (hds : (List.range l.length).all (fun i => match l[i]? with | some o => (match o.dst with | some d => decide (d < n) | none => true) | none => true) = true)
    (hGJ : List.Sublist GJ G) (h : TB P n w0 l st GJ Q fuel (hide (dstsL l) E) G l st []) : ∀ a w, S n w0 E G a w → wpAny P .any l.toArray Q l.toArray.size (Array.replicate l.toArray.size false) a { w with drawn := w.drawn + 1 } := by
  intro a w hs
  obtain ⟨vs, hvl, hop, hno, hx⟩ := TB.parts l st [] hst.symm h
  rw [List.append_nil] at hx
  -- a list of the stable bindings
  generalize hB : (l.zip vs).reverse.filterMap (fun p => match p.1.dst, p.2 with | some d, some v => some (d, v) | _, _ => none) = B at hx
  have hdstn : ∀ (i : Nat) (o : Oper) (d : Nat), l[i]? = some o → o.dst = some d → d < n := by
    intro i o d ho hd
    have hi : i < l.length := (List.getElem?_eq_some_iff.1 ho).1
    have := all_range hds hi
    simp only [ho, hd] at this
    simpa using this
  have hnod : (dstsL l).Nodup := nodupB_spec hnd
  have hinj : ∀ (r : List Oper), (dstsL r).Nodup → ∀ (i j : Nat) (o o' : Oper) (d : Nat), r[i]? = some o → r[j]? = some o' → o.dst = some d → o'.dst = some d → i = j := by
    intro r
    induction r with
    | nil => intro _ i j o o' d ho; simp at ho
    | cons q r ih =>
      intro hn i j o o' d ho ho' hd hd'
      have hmem : ∀ (k : Nat) (p : Oper), r[k]? = some p → p.dst = some d → d ∈ dstsL r := by
        clear ih hn ho ho'
        induction r with
        | nil => intro k p hk; simp at hk
        | cons q' r ih' =>
          intro k p hk hp
          cases k with
          | zero => simp at hk; subst hk; simp [dstsL, hp]
          | succ k =>
            have := ih' k p (by simpa using hk) hp
            simp only [dstsL]
            cases q'.dst with
            | none => exact this
            | some u => exact .tail _ this
      have htail : (dstsL r).Nodup := by
        simp only [dstsL] at hn
        cases hq : q.dst with
        | none => rw [hq] at hn; exact hn
        | some u => rw [hq] at hn; exact (List.nodup_cons.1 hn).2
      cases i with
      | zero =>
        simp at ho
        subst ho
        cases j with
        | zero => rfl
        | succ j =>
          have := hmem j o' (by simpa using ho') hd'
          simp only [dstsL, hd] at hn
          exact absurd this (List.nodup_cons.1 hn).1
      | succ i =>
        cases j with
        | zero =>
          simp at ho'
          subst ho'
          have := hmem i o (by simpa using ho) hd
          simp only [dstsL, hd'] at hn
          exact absurd this (List.nodup_cons.1 hn).1
        | succ j => rw [ih htail i j o o' d (by simpa using ho) (by simpa using ho') hd hd']
  have hdin : ∀ (i : Nat) (o : Oper) (d : Nat), l[i]? = some o → o.dst = some d → (dstsL l).contains d = true := by
    intro i o d ho hd
    have : ∀ (r : List Oper) (k : Nat), r[k]? = some o → d ∈ dstsL r := by
      intro r
      induction r with
      | nil => intro k hk; simp at hk
      | cons q r ih =>
        intro k hk
        cases k with
        | zero => simp at hk; subst hk; simp [dstsL, hd]
        | succ k =>
          have := ih k (by simpa using hk)
          simp only [dstsL]
          cases q.dst with
          | none => exact this
          | some u => exact .tail _ this
    exact List.contains_iff_mem.2 (this l i ho)
  have hBmem : ∀ d v, (d, v) ∈ B ↔ ∃ (i : Nat) (o : Oper), l[i]? = some o ∧ o.dst = some d ∧ vs[i]? = some (some v) := by
    intro d v
    rw [← hB]
    simp only [List.mem_filterMap, List.mem_reverse]
    constructor
    · rintro ⟨⟨o, u⟩, hmem, hu⟩
      obtain ⟨i, hi, hip⟩ := List.mem_iff_getElem.1 hmem
      have hz : (l.zip vs)[i]? = some (o, u) := by rw [← hip]; exact List.getElem?_eq_getElem hi
      rw [List.getElem?_zip_eq_some] at hz
      cases hd : o.dst with
      | none => simp [hd] at hu
      | some d' =>
        cases u with
        | none => simp [hd] at hu
        | some v' =>
          simp [hd] at hu
          obtain ⟨rfl, rfl⟩ := hu
          exact ⟨i, o, hz.1, hd, hz.2⟩
    · rintro ⟨i, o, ho, hd, hv⟩
      refine ⟨(o, some v), ?_, by simp [hd]⟩
      have hz : (l.zip vs)[i]? = some (o, some v) := List.getElem?_zip_eq_some.2 ⟨ho, hv⟩
      exact List.mem_of_getElem? hz
  have hBst : ∀ (i : Nat) (v : Value), vs[i]? = some (some v) → isSt st i = true := by
    intro i v hv
    unfold isSt
    cases hb : st.getD i false with
    | true => rfl
    | false =>
      have hi : i < vs.length := (List.getElem?_eq_some_iff.1 hv).1
      have : st[i]? = some false := by
        have hi' : i < st.length := by omega
        simp [List.getD, hi'] at hb
        simp [hi', hb]
      rw [hno i this] at hv
      cases hv
  have hlook : ∀ (i : Nat) (o : Oper) (d : Nat) (v : Value), l[i]? = some o → o.dst = some d → vs[i]? = some (some v) → look d B = some v := by
    intro i o d v ho hd hv
    have hmem := (hBmem d v).2 ⟨i, o, ho, hd, hv⟩
    have : ∀ (A : Env), (d, v) ∈ A → (∀ u, (d, u) ∈ A → u = v) → look d A = some v := by
      intro A
      induction A with
      | nil => intro h; cases h
      | cons p A ih =>
        intro h hu
        simp only [look_cons]
        cases hb : Nat.beq p.1 d with
        | true =>
          have e := Nat.eq_of_beq_eq_true hb
          have := hu p.2 (by rw [← e]; exact .head _)
          simp [this]
        | false =>
          refine ih ?_ (fun u hmu => hu u (.tail _ hmu))
          rcases List.mem_cons.1 h with h | h
          · rw [← h] at hb; simp at hb
          · exact h
    refine this B hmem (fun u hu => ?_)
    obtain ⟨i', o', ho', hd', hv'⟩ := (hBmem d u).1 hu
    have := hinj l hnod i i' o o' d ho ho' hd hd'
    subst this
    rw [hv] at hv'
    simpa using hv'.symm
  have hlook' : ∀ d v, look d B = some v → ∃ (i : Nat) (o : Oper), l[i]? = some o ∧ o.dst = some d ∧ vs[i]? = some (some v) := fun d v h => (hBmem d v).1 (look_mem h)
  -- the virtual frame
  generalize hE0 : hide (dstsL l) E = E0 at *
  have hE0le : ∀ k u, look k E0 = some u → look k E = some u ∧ (dstsL l).contains k = false := by
    intro k u hk
    rw [← hE0] at hk
    have := look_hide hk
    exact ⟨this.2, this.1⟩
  have hvirt : ∀ (A : Env), (∀ p ∈ A, p.1 < n) → ∃ a' : Act, S n w0 (A ++ E0) G a' w ∧ ∀ k, (∀ p ∈ A, p.1 ≠ k) → a'.tmps[k]? = a.tmps[k]? := by
    intro A
    induction A with
    | nil => intro _; exact ⟨a, hs.env_le (fun k u hk => (hE0le k u hk).1), fun k _ => rfl⟩
    | cons p A ih =>
      intro hA
      obtain ⟨a', h1, h2⟩ := ih (fun q hq => hA q (.tail _ hq))
      refine ⟨a'.put (some p.1) p.2, h1.put (hA p (.head _)) p.2, fun k hk => ?_⟩
      rw [put_get (by rw [h1.size]; exact hA p (.head _)), if_neg (fun e => hk p (.head _) e.symm)]
      exact h2 k (fun q hq => hk q (.tail _ hq))
  have hBn : ∀ p ∈ B, p.1 < n := by
    intro p hp
    obtain ⟨i, o, ho, hd, _⟩ := (hBmem p.1 p.2).1 hp
    exact hdstn i o p.1 ho hd
  obtain ⟨av, hSv, hav⟩ := hvirt B hBn
  -- the run
  have hlen : l.toArray.size = l.length := by simp
  have key : ∀ (fuel' : Nat) (fv : Nat) (listed lv : Array Bool) (a1 a2 : Act) (w1 : World), listed.size = l.length → lv.size = l.length → listed.toList.count false ≤ fuel' →
      (∀ i, i < l.length → (lv.getD i false = true ↔ (listed.getD i false = true ∨ isSt st i = true))) →
      wpX P l st w0 GJ Q fv lv a2 w1 → a1.tmps.size = n → a2.tmps.size = n → a1.defers = a2.defers → a1.defers = [] →
      (∀ (k : Nat), (∀ (i : Nat) (o : Oper), l[i]? = some o → isSt st i = true → listed.getD i false = false → o.dst ≠ some k) → a1.tmps[k]? = a2.tmps[k]?) →
      (∀ (i : Nat) (o : Oper) (d : Nat) (v : Value), l[i]? = some o → o.dst = some d → vs[i]? = some (some v) → a2.tmps[d]? = some v) →
      (∀ k u, look k E0 = some u → a1.tmps[k]? = some u) →
      ((∃ i, i < l.length ∧ isSt st i = true ∧ listed.getD i false = false) → JOK w0 GJ w1) →
      wpAny P .any l.toArray Q fuel' listed a1 w1 := by
    intro fuel'
    have hdone : ∀ (fv : Nat) (listed lv : Array Bool) (a1 a2 : Act) (w1 : World), listed.size = l.length → lv.size = l.length → Region.ready .any l.toArray listed = [] →
        (∀ i, i < l.length → (lv.getD i false = true ↔ (listed.getD i false = true ∨ isSt st i = true))) →
        wpX P l st w0 GJ Q fv lv a2 w1 → a1.tmps.size = n → a2.tmps.size = n → a1.defers = a2.defers →
        (∀ (k : Nat), (∀ (i : Nat) (o : Oper), l[i]? = some o → isSt st i = true → listed.getD i false = false → o.dst ≠ some k) → a1.tmps[k]? = a2.tmps[k]?) → Q .normal a1 w1 := by
      intro fv listed lv a1 a2 w1 hls hlv hr hrel hw hn1 hn2 hdf hag
      have hall : ∀ i, i < l.length → listed.getD i false = true := by
        intro i
        induction i using Nat.strongRecOn with
        | _ i ih =>
          intro hi
          cases hli : listed.getD i false with
          | true => rfl
          | false =>
            exfalso
            have : i ∈ Region.ready .any l.toArray listed := by
              rw [mem_ready]
              refine ⟨?_, l[i], by simp [hi], fun e he hb => ?_⟩
              · have hi2 : i < listed.size := by omega
                simp [Array.getD, hi2] at hli ⊢
                exact hli
              · have := edgesB_spec hed i l[i] (by simp [hi]) e he hb
                exact ih e.on (by omega) (by omega)
            rw [hr] at this
            cases this
      have hlvall : Region.ready .any l.toArray lv = [] := by
        rw [List.eq_nil_iff_forall_not_mem]
        intro j hj
        obtain ⟨h0, o, ho, _⟩ := mem_ready.1 hj
        have hjl : j < l.length := by
          have := (Array.getElem?_eq_some_iff.1 ho).1
          simpa using this
        have := (hrel j hjl).2 (.inl (hall j hjl))
        simp [Array.getD, show j < lv.size by omega] at this h0
        rw [this] at h0
        cases h0
      have he : a1 = a2 := by
        obtain ⟨t1, d1⟩ := a1
        obtain ⟨t2, d2⟩ := a2
        simp only at hdf hn1 hn2 hag
        subst hdf
        congr 1
        apply Array.ext_getElem?
        intro k
        refine hag k (fun i o ho _ hli => ?_)
        have hi : i < l.length := (List.getElem?_eq_some_iff.1 ho).1
        rw [hall i hi] at hli
        cases hli
      rw [he]
      cases fv with
      | zero => exact hw.2
      | succ k => exact hw.1 hlvall
    induction fuel' with
    | zero =>
      intro fv listed lv a1 a2 w1 hls hlv hc hrel hw hn1 hn2 hdf hd0 hag hvv hE1 hJ
      have hr : Region.ready .any l.toArray listed = [] := by
        rw [List.eq_nil_iff_forall_not_mem]
        intro j hj
        have := (mem_ready.1 hj).1
        have hj2 : j < listed.size := by
          cases Nat.lt_or_ge j listed.size with
          | inl h => exact h
          | inr h => simp [Array.getD, Nat.not_lt.2 h] at this
        have hmem : false ∈ listed.toList := by
          simp [Array.getD, hj2] at this
          rw [← this]
          simp
        have := List.count_pos_iff.2 hmem
        omega
      exact ⟨hr, hdone fv listed lv a1 a2 w1 hls hlv hr hrel hw hn1 hn2 hdf hag⟩
    | succ fuel' ih =>
      intro fv listed lv a1 a2 w1 hls hlv hc hrel hw hn1 hn2 hdf hd0 hag hvv hE1 hJ
      refine ⟨fun hr => hdone fv listed lv a1 a2 w1 hls hlv hr hrel hw hn1 hn2 hdf hag, fun i hi => ?_⟩
      obtain ⟨hi0, o, ho, hall⟩ := mem_ready.1 hi
      have hol : l[i]? = some o := by simpa using ho
      have hil : i < l.length := (List.getElem?_eq_some_iff.1 hol).1
      have hi1 : i < listed.size := by omega
      have hli : listed.getD i false = false := by
        simp [Array.getD, hi1] at hi0 ⊢
        exact hi0
      have hsetsz : (listed.setIfInBounds i true).size = l.length := by simp [hls]
      have hcount : (listed.setIfInBounds i true).toList.count false ≤ fuel' := by
        rw [Array.toList_setIfInBounds]
        have hf : listed.toList[i]'(by simpa using hi1) = false := by
          simp [Array.getD, hi1] at hi0
          simpa using hi0
        rw [List.count_set (h := by simpa using hi1), hf]
        have : 0 < listed.toList.count false := List.count_pos_iff.2 (by rw [← hf]; exact List.getElem_mem _)
        simp
        have e : listed.toList.count false = Array.count false listed := by simp [Array.count_toList]
        omega
      have hgetset : ∀ j, (listed.setIfInBounds i true).getD j false = if j = i then true else listed.getD j false := by
        intro j
        by_cases hji : j = i
        · subst hji; simp [Array.getD, hi1]
        · rw [getD_set_ne false (Ne.symm hji), if_neg hji]
      unfold wpOp
      rw [ho]
      dsimp only
      cases hsti : isSt st i with
      | true =>
        have hsti' : st[i]? = some true := by
          have : i < st.length := by omega
          simp [isSt, List.getD, this] at hsti
          simp [this, hsti]
        obtain ⟨d, v, hd, hdn, hv, hok⟩ := hop i o hol hsti'
        rw [List.append_nil] at hok
        have hJw := hJ ⟨i, hil, hsti, hli⟩
        have hS1 : S n w0 (depB l (((l.zip vs).take i).reverse.filterMap (fun p => match p.1.dst, p.2 with | some d, some v => some (d, v) | _, _ => none)) o.after.toList ++ E0) GJ a1 w1 := by
          refine ⟨hn1, hd0, fun k u hk => ?_, hJw⟩
          rcases look_append hk with hk | hk
          · obtain ⟨e, he, hb, o', ho', hd', hl'⟩ := look_depB hk
            have hmem := look_mem hl'
            have hmemB : (k, u) ∈ B := by
              rw [← hB]
              obtain ⟨q, hq, hq2⟩ := List.mem_filterMap.1 hmem
              exact List.mem_filterMap.2 ⟨q, by rw [List.mem_reverse] at hq ⊢; exact List.mem_of_mem_take hq, hq2⟩
            obtain ⟨j, oj, hoj, hdj, hvj⟩ := (hBmem k u).1 hmemB
            have hje : j = e.on := hinj l hnod j e.on oj o' k hoj ho' hdj hd'
            subst hje
            have hlj : listed.getD e.on false = true := hall e (by simpa using he) hb
            rw [hag k (fun i' o'' ho'' _ hl'' hd'' => ?_)]
            · exact hvv e.on oj k u hoj hdj hvj
            · have := hinj l hnod i' e.on o'' oj k ho'' hoj hd'' hdj
              subst this
              rw [hlj] at hl''
              cases hl''
          · exact hE1 k u hk
        have hrun := hok _ (fun k u hk => hk) a1 w1 hS1
        have hnext : wpAny P .any l.toArray Q fuel' (listed.setIfInBounds i true) (a1.put o.dst v) w1 := by
          rw [hd]
          refine ih fv _ lv _ a2 w1 hsetsz hlv hcount ?_ hw (by show (a1.tmps.setIfInBounds d v).size = n; simp [hn1]) hn2 hdf hd0 ?_ hvv ?_ ?_
          · intro j hj
            rw [hgetset]
            by_cases hji : j = i
            · subst hji; simp [hsti, (hrel j hj).2 (.inr hsti)]
            · rw [if_neg hji]; exact hrel j hj
          · intro k hk
            rw [put_get (by rw [hn1]; exact hdn)]
            by_cases hkd : k = d
            · subst hkd
              rw [if_pos rfl, hvv i o k v hol hd hv]
            · rw [if_neg hkd]
              refine hag k (fun i' o'' ho'' hs'' hl'' hd'' => ?_)
              by_cases hii : i' = i
              · subst hii
                rw [hol] at ho''
                cases ho''
                rw [hd] at hd''
                exact hkd (by simpa using hd''.symm)
              · exact hk i' o'' ho'' hs'' (by rw [hgetset, if_neg hii]; exact hl'') hd''
          · intro k u hk
            rw [put_get (by rw [hn1]; exact hdn), if_neg]
            · exact hE1 k u hk
            · intro e
              subst e
              have := (hE0le k u hk).2
              rw [hdin i o k hol hd] at this
              cases this
          · intro _
            exact hJw
        by_cases hwt : Region.wanted o (yielded l.toArray a1.tmps) = true
        · rw [if_pos hwt] at hrun ⊢
          refine .inl ?_
          unfold Oper.wp
          rw [hrun]
          exact hnext
        · rw [if_neg hwt] at hrun ⊢
          rw [← hrun]
          exact hnext
      | false =>
        have hmi := all_range hmx hil
        simp only [hol, hsti, Bool.false_or, Bool.and_eq_true] at hmi
        have hsel : ∀ cs b, o.op ≠ .select cs b := by
          intro cs b e
          rw [e] at hmi
          cases hmi.1
        have hlk : ∀ k ∈ o.looksAt l.toArray, a1.tmps[k]? = a2.tmps[k]? := by
          intro k hk
          refine hag k (fun j oj hoj hsj hlj hdj => ?_)
          have hjl : j < l.length := (List.getElem?_eq_some_iff.1 hoj).1
          have h1 := List.all_eq_true.1 hmi.2 k hk
          have h2 := all_range h1 hjl
          simp only [hsj, Bool.not_true, Bool.false_or, hoj, hdj, Bool.or_eq_true] at h2
          rcases h2 with h2 | h2
          · simp only [bindsOn, List.any_eq_true, Bool.and_eq_true, beq_iff_eq] at h2
            obtain ⟨e, he, hb, hon⟩ := h2
            have := hall e (by simpa using he) hb
            rw [hon, hlj] at this
            cases this
          · simp at h2
        obtain ⟨hex, hwa⟩ := exec_agree hsel hlk
        have hlvi : lv.getD i false = false := by
          cases hh : lv.getD i false with
          | false => rfl
          | true =>
            rcases (hrel i hil).1 hh with h3 | h3
            · rw [hli] at h3; cases h3
            · rw [hsti] at h3; cases h3
        have hiv : i ∈ Region.ready .any l.toArray lv := by
          rw [mem_ready]
          refine ⟨?_, o, ho, fun e he hb => ?_⟩
          · simp [Array.getD, show i < lv.size by omega] at hlvi ⊢
            exact hlvi
          · have hon : e.on < l.length := by
              have := edgesB_spec hed i o hol e he hb
              omega
            exact (hrel e.on hon).2 (.inl (hall e he hb))
        cases fv with
        | zero => rw [hw.1] at hiv; cases hiv
        | succ fv =>
          have hstep := hw.2 i hiv o hol
          unfold wpList at hstep
          have hcont : ∀ (v : Value) (w' : World), wpList P l.toArray (Exit.then (fun a' w' => a'.defers = [] ∧ (needJ st l.length o = true → JOK w0 GJ w') ∧ wpX P l st w0 GJ Q fv (lv.setIfInBounds i true) a' w') QF) [] (a2.put o.dst v) w' →
              wpAny P .any l.toArray Q fuel' (listed.setIfInBounds i true) (a1.put o.dst v) w' := by
            intro v w' hq
            unfold wpList at hq
            obtain ⟨_, hq1, hq2⟩ : (a2.put o.dst v).defers = [] ∧ (needJ st l.length o = true → JOK w0 GJ w') ∧ wpX P l st w0 GJ Q fv (lv.setIfInBounds i true) (a2.put o.dst v) w' := hq
            have hsz : ∀ (b : Act), b.tmps.size = n → (b.put o.dst v).tmps.size = n := by
              intro b hb
              cases hd : o.dst with
              | none => exact hb
              | some d => show (b.tmps.setIfInBounds d v).size = n; simp [hb]
            have hdef : ∀ (b : Act), (b.put o.dst v).defers = b.defers := by
              intro b
              cases o.dst <;> rfl
            have hputk : ∀ (b : Act), b.tmps.size = n → ∀ k, (b.put o.dst v).tmps[k]? = if o.dst = some k then some v else b.tmps[k]? := by
              intro b hb k
              cases hd : o.dst with
              | none => simp [Act.put]
              | some d =>
                rw [put_get (by rw [hb]; exact hdstn i o d hol hd)]
                by_cases hkd : k = d
                · subst hkd; simp
                · rw [if_neg hkd, if_neg (by simpa using Ne.symm hkd)]
            refine ih fv _ (lv.setIfInBounds i true) _ (a2.put o.dst v) w' hsetsz (by simp [hlv]) hcount ?_ hq2 (hsz a1 hn1) (hsz a2 hn2) (by rw [hdef, hdef]; exact hdf) (by rw [hdef]; exact hd0) ?_ ?_ ?_ ?_
            · intro j hj
              rw [hgetset]
              by_cases hji : j = i
              · subst hji; simp [Array.getD, show j < lv.size by omega]
              · rw [if_neg hji, getD_set_ne false (Ne.symm hji)]; exact hrel j hj
            · intro k hk
              rw [hputk a1 hn1, hputk a2 hn2]
              split
              · rfl
              · refine hag k (fun i' o'' ho'' hs'' hl'' hd'' => ?_)
                by_cases hii : i' = i
                · subst hii; rw [hsti] at hs''; cases hs''
                · exact hk i' o'' ho'' hs'' (by rw [hgetset, if_neg hii]; exact hl'') hd''
            · intro j oj d u hoj hdj hvj
              rw [hputk a2 hn2, if_neg]
              · exact hvv j oj d u hoj hdj hvj
              · intro e
                have := hinj l hnod j i oj o d hoj hol hdj e
                subst this
                have := hBst j u hvj
                rw [hsti] at this
                cases this
            · intro k u hk
              rw [hputk a1 hn1, if_neg]
              · exact hE1 k u hk
              · intro e
                have := (hE0le k u hk).2
                rw [hdin i o k hol e] at this
                cases this
            · rintro ⟨j, hjl, hsj, hlj⟩
              refine hq1 ?_
              unfold needJ
              rw [List.any_eq_true]
              refine ⟨j, List.mem_range.2 hjl, ?_⟩
              rw [hsj, Bool.true_and]
              cases hbo : bindsOn o j with
              | false => rfl
              | true =>
                exfalso
                simp only [bindsOn, List.any_eq_true, Bool.and_eq_true, beq_iff_eq] at hbo
                obtain ⟨e, he, hb, hon⟩ := hbo
                have h4 := hall e (by simpa using he) hb
                rw [hgetset] at hlj
                by_cases hji : j = i
                · rw [if_pos hji] at hlj; cases hlj
                · rw [if_neg hji, ← hon, h4] at hlj; cases hlj
          rw [← hwa] at hstep
          by_cases hwt : Region.wanted o (yielded l.toArray a1.tmps) = true
          · rw [if_pos hwt] at hstep ⊢
            rcases hstep with hstep | ⟨_, _, _, hf⟩
            · refine .inl ?_
              unfold Oper.wp at hstep ⊢
              rw [hex]
              generalize (execOp a2.eval o).run P w1 = r at hstep
              cases r with
              | ok nx w' =>
                cases nx <;> simp only [Oper.upon] at hstep ⊢
                all_goals first
                  | exact hcont _ _ hstep
                  | exact hstep.elim
                  | (refine Calls.mono hstep ?_; rintro e w'' he; cases e with | returned v => exact hcont _ _ he | panicked c => exact he.elim | outgrown => (obtain ⟨_, _, hf⟩ := he; exact hf.elim))
                  | (refine Rows.mono hstep ?_; intro v w'' he; exact hcont _ _ he)
                  | skip
                case defer dd =>
                  exfalso
                  unfold wpList at hstep
                  obtain ⟨h9, _⟩ : ((({ a2 with defers := dd :: a2.defers } : Act).put o.dst undef).defers = []) ∧ _ := hstep
                  cases hdo : o.dst <;> rw [hdo] at h9 <;> simp [Act.put] at h9
              | halt x w' =>
                cases x <;> simp only [Oper.upon] at hstep ⊢
                all_goals first | exact hstep.elim | exact (hstep : False).elim
            · exact hf.elim
          · rw [if_neg hwt] at hstep ⊢
            exact hcont _ _ hstep
  refine key _ fuel _ st.toArray a av _ (by simp) (by simp [hst]) ?_ ?_ ?_ hs.size hSv.size (by rw [hs.defers, hSv.defers]) hs.defers ?_ ?_ ?_ ?_
  · simp [List.count_replicate]
  · intro i hi
    have : (Array.replicate l.toArray.size false).getD i false = false := by simp [Array.getD]
    rw [this]
    simp [isSt, List.getD, Array.getD, show i < st.length by omega]
  · exact hx av _ (hSv.world hSv.new.drew)
  · intro k hk
    symm
    refine hav k (fun p hp e => ?_)
    obtain ⟨i, o, ho, hd, hv⟩ := (hBmem p.1 p.2).1 hp
    exact hk i o ho (hBst i p.2 hv) (by simp [Array.getD]) (by rw [hd, e])
  · intro i o d v ho hd hv
    have hl := hlook i o d v ho hd hv
    exact hSv.env d v (by
      have : ∀ (A : Env), look d A = some v → look d (A ++ E0) = some v := by
        intro A
        induction A with
        | nil => intro h; simp [look_nil, look_cons] at h
        | cons p A ih =>
          intro h
          simp only [List.cons_append, look_cons] at h ⊢
          cases hb : Nat.beq p.1 d with
          | true => rw [hb] at h; exact h
          | false => rw [hb] at h; exact ih h
      exact this B hl)
  · intro k u hk
    exact hs.env k u (hE0le k u hk).1
  · intro _
    exact hs.new.drew.sub hGJ

theorem TG.mix {r : Option Nat} {ds : List Deferred} {id : Nat} {l : List Oper} (hlo : ¬ LetsOut Q) (hn : l.toArray.toList.all noDefer = true) (st : List Bool) (GJ : Heap) (fuel : Nat) (hm : P.follows .mixedOrders = true) (hst : st.length = l.length) (hnd : nodupB (dstsL l) = true) (hed : edgesB l 0 l = true) (hmx : mixB l st = true)
    (hds : (List.range l.length).all (fun i => match l[i]? with | some o => (match o.dst with | some d => decide (d < n) | none => true) | none => true) = true)
    (hGJ : List.Sublist GJ G) (h : TB P n w0 l st GJ (QD ds Q) fuel (hide (dstsL l) E) G l st []) : TG r ds P n w0 (.region id l.toArray true) Q E G := fun a w hs =>
  wpIn_region_any hm (any_in hlo hn _ _ _ _ (mix_any st GJ fuel hm hst hnd hed hmx hds hGJ h a w hs))
end
end Go.Sx
