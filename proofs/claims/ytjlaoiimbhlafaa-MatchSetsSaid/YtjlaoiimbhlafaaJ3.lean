import Derived.Test.YtjlaoiimbhlafaaL1
set_option linter.unusedVariables false
set_option linter.unusedSimpArgs false
namespace Go.Proofs.Ytjlaoiimbhlafaa
open Go.RowKit Go.Shelf

/-! The rule for a region in which the q-th operation turns what another one has made. -/
namespace Dq
/-- Nothing below n0 turns. -/
def Bn (n0 : Nat) (W W' : World) : Prop := Below n0 W W'
theorem Bn.refl (n0 : Nat) (W : World) : Bn n0 W W := Below.refl _ _
theorem Bn.trans {n0 : Nat} {a b c : World} (h : Bn n0 a b) (k : Bn n0 b c) : Bn n0 a c := Below.trans h k
theorem Bn.of {n0 : Nat} {W W' : World} (hn : n0 ≤ W.heap.size) (h : Gr W W') : Bn n0 W W' := ⟨h.os, h.tape, h.output, h.size, fun k hk => h.block k (by omega)⟩
def St (n0 : Nat) (wild : Bool) (W W' : World) : Prop := Bn n0 W W' ∧ (wild = false → Gr W W')
theorem St.same (n0 : Nat) (b : Bool) (W : World) : St n0 b W W := ⟨Bn.refl _ _, fun _ => Below.refl _ _⟩
theorem St.of {n0 : Nat} {b : Bool} {W W' : World} (hn : n0 ≤ W.heap.size) (h : Gr W W') : St n0 b W W' := ⟨Bn.of hn h, fun _ => h⟩
def Gives (n0 : Nat) (wild : Bool) (P : Program) (W : World) (V : Value → World → Prop) (Pan : List PanicEntry → World → Prop) : Result Next → Prop
  | .ok (.value v) w' => V v w' ∧ St n0 wild W w'
  | .ok .skip w' => V undef w' ∧ St n0 wild W w'
  | .ok (.enter f args) w' => w' = W ∧ Calls P f args w' fun e w'' => match e with
      | .returned v => V v w'' ∧ St n0 wild W w''
      | .panicked c => Pan c w''
      | .outgrown => False
  | .halt (.panic v) w' => Pan [{ v, recovered := false }] w'
  | _ => False
section
variable {P : Program} {ops : Array Oper} {Q : Exit → Act → World → Prop} {n0 q : Nat}
/-- What the i-th operation may use of the others. -/
def Lof (Vs : Nat → Bool → Value → World → Prop) (q i : Nat) : List (Value → World → Prop) := (List.range i).map fun j => Vs j (decide (i ≠ q))
def Step (n0 q : Nat) (P : Program) (ops : Array Oper) (n : Nat) (tm : Array Value) (w : World) (Pan : List PanicEntry → World → Prop) (Vs : Nat → Bool → Value → World → Prop) (i : Nat) (o : Oper) : Prop :=
  ∀ (ρ : Operand → Value) (W : World), Plain ρ → Bn n0 w W → Facts ops n (Lof Vs q i) tm ρ W (looks ops o) →
    (Lets ops ρ o → Gives n0 (decide (i = q)) P W (Vs i (decide (i = q))) Pan ((execOp ρ o).run P W)) ∧ (¬ Lets ops ρ o → Vs i (decide (i = q)) undef W)
structure Ok (n0 q : Nat) (Vs : Nat → Bool → Value → World → Prop) : Prop where
  gr : ∀ i b v W W', Vs i b v W → Gr W W' → Vs i b v W'
  wild : ∀ i b v W W', i ≠ q → Vs i b v W → Bn n0 W W' → Vs i true v W'
theorem Ok.weak {Vs : Nat → Bool → Value → World → Prop} (h : Ok n0 q Vs) {i : Nat} {b : Bool} {v : Value} {W : World} (hi : i ≠ q) (hv : Vs i b v W) : Vs i true v W := h.wild _ _ _ _ _ hi hv (Bn.refl _ _)
theorem Ok.weak' {Vs : Nat → Bool → Value → World → Prop} (h : Ok n0 q Vs) {i : Nat} {listed : Array Bool} {v : Value} {W : World} (hi : listed.getD i false = true) (hv : Vs i (listed.getD q false) v W) : Vs i true v W := by
  by_cases hq : i = q
  · subst hq
    rw [hi] at hv
    exact hv
  · exact h.weak hq hv
structure HI (n0 q : Nat) (ops : Array Oper) (n : Nat) (Vs : Nat → Bool → Value → World → Prop) (a : Act) (w : World) (listed : Array Bool) (a' : Act) (W : World) : Prop where
  inv : HeadInv .any ops n listed
  grow : Bn n0 w W
  defers : a'.defers = a.defers
  size : a'.tmps.size = a.tmps.size
  done : ∀ i d, i < n → (ops[i]?).bind (·.dst) = some d → listed.getD i false = true → Vs i (listed.getD q false) (a'.tmps.getD d undef) W
  rest : ∀ t, (∀ i, i < n → (ops[i]?).bind (·.dst) = some t → listed.getD i false = false) → a'.tmps.getD t undef = a.tmps.getD t undef
variable {n : Nat} {Vs : Nat → Bool → Value → World → Prop} {a a' : Act} {w W W' : World} {listed : Array Bool}

theorem HI.set (h : HI n0 q ops n Vs a w listed a' W) (hl : Ok n0 q Vs) {i d : Nat} {o : Oper} (hd : HeadOk ops n a.tmps.size i o d) (hin : i < n) (hr : i ∈ Region.ready .any ops listed) {v : Value} (hv : Vs i (decide (i = q)) v W') (hg : St n0 (decide (i = q)) W W') :
    HI n0 q ops n Vs a w (listed.setIfInBounds i true) (a'.put (some d) v) W' := by
  have his : i < listed.size := by
    rw [h.inv.size]; exact (Array.getElem?_eq_some_iff.1 hd.op).1
  have hdd : (ops[i]?).bind (·.dst) = some d := by rw [hd.op]; exact hd.dst
  refine ⟨h.inv.set hr hin, h.grow.trans hg.1, h.defers, by simpa [Act.put] using h.size, fun j e hj hje hl' => ?_, fun t ht => ?_⟩
  · by_cases hij : i = j
    · subst hij
      have : d = e := Option.some.inj (hdd.symm.trans hje)
      subst this
      have hs : d < a'.tmps.size := by rw [h.size]; exact hd.lt
      have key : Vs i ((listed.setIfInBounds i true).getD q false) v W' := by
        by_cases hiq : i = q
        · subst hiq
          rw [listed_set_self his]
          simpa using hv
        · rw [getD_set_ne false hiq]
          have hv' : Vs i false v W' := by simpa [hiq] using hv
          cases listed.getD q false with
          | false => exact hv'
          | true => exact hl.weak hiq hv'
      simpa [Act.put, hs] using key
    · rw [getD_set_ne false hij] at hl'
      have hne : d ≠ e := fun e' => hij (hd.only j hj (by rw [hje, e'])).symm
      have h0 := h.done j e hj hje hl'
      have key : Vs j ((listed.setIfInBounds i true).getD q false) (a'.tmps.getD e undef) W' := by
        by_cases hiq : i = q
        · subst hiq
          rw [listed_set_self his]
          exact hl.wild _ _ _ _ _ (fun e => hij e.symm) h0 hg.1
        · rw [getD_set_ne false hiq]
          exact hl.gr _ _ _ _ _ h0 (hg.2 (by simpa using hiq))
      simpa [Act.put, Array.getElem?_setIfInBounds_ne hne] using key
  · have hne : d ≠ t := fun e => by
      have := ht i hin (by rw [hdd, e])
      rw [listed_set_self his] at this
      cases this
    have := h.rest t fun j hj hjt => by
      have h1 := ht j hj hjt
      by_cases hij : i = j
      · subst hij; exact absurd (Option.some.inj (hdd.symm.trans hjt)) hne
      · rwa [getD_set_ne false hij] at h1
    simpa [Act.put, Array.getElem?_setIfInBounds_ne hne] using this

theorem HI.step (h : HI n0 q ops n Vs a w listed a' W) (hl : Ok n0 q Vs) {Pan : List PanicEntry → World → Prop} {i d : Nat} {o : Oper} (hd : HeadOk ops n a.tmps.size i o d) (hin : i < n) (hr : i ∈ Region.ready .any ops listed)
    (hs : Step n0 q P ops n a.tmps w Pan Vs i o)
    (hP : ∀ c W, Pan c W → ∀ a', a'.defers = a.defers → Q (.panic c) a' W) :
    wpOp P ops Q i (HI n0 q ops n Vs a w (listed.setIfInBounds i true)) a' W := by
  obtain ⟨hno, oi, hoi, hall⟩ := mem_ready.1 hr
  have : oi = o := Option.some.inj (hoi.symm.trans hd.op)
  subst this
  have hsz : i < listed.size := by
    rw [h.inv.size]; exact (Array.getElem?_eq_some_iff.1 hd.op).1
  have hf : Facts ops n (Lof Vs q i) a.tmps a'.eval W (looks ops oi) := Facts.mk fun t ht => by
    unfold Fact
    cases hfl : fills ops n t with
    | none =>
      exact h.rest t fun j hj hjt => absurd hjt (fills_none hfl j hj)
    | some j =>
      obtain ⟨hjn, hjd⟩ := fills_some hfl
      obtain ⟨hji, hw⟩ := hd.sees t ht j hfl
      obtain ⟨oj, hoj, e, he, hb, hon⟩ := Region.waitsFor_spec hw
      have : oj = oi := Option.some.inj (hoj.symm.trans hd.op)
      subst this
      have h1 := hall e he hb
      rw [hon] at h1
      have h2 := h.done j t hjn hjd h1
      have e1 : (Lof Vs q i).getD j (fun _ _ => True) = Vs j (decide (i ≠ q)) := by simp [Lof, hji]
      simp only [e1]
      by_cases hiq : i = q
      · subst hiq
        have h3 : listed.getD i false = false := getD_both hno
        rw [h3] at h2
        have e2 : decide (i ≠ i) = false := by simp
        rw [e2]
        exact h2
      · have h3 := hl.weak' h1 h2
        have e2 : decide (i ≠ q) = true := by simpa using hiq
        rw [e2]
        exact h3
  obtain ⟨s1, s2⟩ := hs a'.eval W (Plain.eval a') h.grow hf
  unfold wpOp
  simp only [hd.op]
  by_cases hw : Region.wanted oi (yielded ops a'.tmps) = true
  · rw [if_pos hw]
    refine .inl ?_
    have h1 := s1 (lets_of_wanted.1 hw)
    unfold Oper.wp
    have key : ∀ v W', Vs i (decide (i = q)) v W' → St n0 (decide (i = q)) W W' → HI n0 q ops n Vs a w (listed.setIfInBounds i true) (a'.put (some d) v) W' := fun v W' hv hg => h.set hl hd hin hr hv hg
    cases hrun : (execOp a'.eval oi).run P W with
    | ok nx w' =>
      rw [hrun] at h1
      cases nx <;> simp only [Gives] at h1 <;> simp only [Oper.upon, hd.dst]
      case value v => exact key _ _ h1.1 h1.2
      case skip => exact key _ _ h1.1 h1.2
      case enter f args =>
        obtain ⟨rfl, h1⟩ := h1
        refine h1.mono fun e w'' he => ?_
        cases e with
        | returned v => exact key _ _ he.1 he.2
        | panicked c => exact hP _ _ he _ h.defers
        | outgrown => exact he.elim
    | halt x w' =>
      rw [hrun] at h1
      cases x <;> simp only [Gives] at h1
      case panic v => exact hP _ _ h1 _ h.defers
  · rw [if_neg hw, hd.dst]
    exact h.set hl hd hin hr (s2 fun hl' => hw (lets_of_wanted.2 hl')) (St.same _ _ _)
theorem wpAny_of_chain {l : List Oper} (hl : Ok n0 q Vs) {Pan : List PanicEntry → World → Prop}
    (hheads : ∀ k, k < n → ∃ o d, HeadOk l.toArray n a.tmps.size k o d) (hnl : n ≤ l.length)
    (htw : ∀ listed, HeadInv .any l.toArray n listed → (∃ i, i < n ∧ listed.getD i true = false) → ∀ t, n ≤ t → t ∉ Region.ready .any l.toArray listed)
    (hseq : Region.seqB .any l.toArray (l.length - n) n (half n l.length) = true)
    (hs : ∀ i o, i < n → l.toArray[i]? = some o → Step n0 q P l.toArray n a.tmps w Pan Vs i o)
    (hP : ∀ c W, Pan c W → ∀ a', a'.defers = a.defers → Q (.panic c) a' W)
    (hfin : ∀ a' W, HI n0 q l.toArray n Vs a w (half n l.length) a' W → wpList P l.toArray Q (l.drop n) a' W) :
    ∀ (c : Nat) (listed : Array Bool) (a' : Act) (W : World), open_ n listed = c → HI n0 q l.toArray n Vs a w listed a' W → wpAny P .any l.toArray Q (c + (l.length - n)) listed a' W := by
  intro c
  induction c with
  | zero =>
    intro listed a' W hc h
    have he : listed = half n l.length := by
      refine Array.ext (by rw [h.inv.size]; simp [half]) fun i h1 h2 => ?_
      have h1' : i < l.length := by have := h.inv.size; simp at this; omega
      by_cases hin : i < n
      · have := open_zero hc i hin
        simp only [Array.getD_eq_getD_getElem?, Array.getElem?_eq_getElem h1, Option.getD_some] at this
        simp [half, this, hin]
      · have := h.inv.tail i (by omega) (by simpa using h1')
        simp only [Array.getD_eq_getD_getElem?, Array.getElem?_eq_getElem h1, Option.getD_some] at this
        simp [half, this, hin]
    subst he
    have h1 := wpAny_of_seq (md := .any) (Q' := Q) (P := P) (ops := l.toArray) (l.drop n) n (half n l.length) a' W (fun j => by simp [List.getElem?_drop]) (by simpa using hseq) (hfin a' W h)
    simpa using h1
  | succ c ih =>
    intro listed a' W hc h
    rw [show c + 1 + (l.length - n) = (c + (l.length - n)) + 1 by omega]
    have hsz : listed.size = l.length := by simpa using h.inv.size
    have hex : ∃ i, i < n ∧ listed.getD i false = false := by
      apply Classical.byContradiction
      intro hno
      have : open_ n listed = 0 := by
        unfold open_
        rw [List.length_eq_zero_iff, List.filter_eq_nil_iff]
        intro i hi
        have hi' := List.mem_range.1 hi
        cases hx : listed.getD i false with
        | true => simp
        | false => exact absurd ⟨i, hi', hx⟩ hno
      omega
    have hun : ∃ i, i < n ∧ listed.getD i true = false := by
      obtain ⟨i, hi, hx⟩ := hex
      exact ⟨i, hi, getD_in (by omega) hx⟩
    have hready : Region.ready .any l.toArray listed ≠ [] := by
      obtain ⟨i, hi, hx, hleast⟩ := exists_first n hex
      obtain ⟨o, d, hd⟩ := hheads i hi
      have : i ∈ Region.ready .any l.toArray listed := by
        refine mem_ready.2 ⟨getD_in (by omega) hx, o, hd.op, fun e he hb => ?_⟩
        have := hleast e.on (hd.early e he hb)
        simpa using this
      intro h0
      rw [h0] at this
      cases this
    refine ⟨fun h0 => absurd h0 hready, fun i hi => ?_⟩
    have hin : i < n := by
      rcases Nat.lt_or_ge i n with h' | h'
      · exact h'
      · exact absurd hi (htw listed h.inv hun i h')
    obtain ⟨o, d, hd⟩ := hheads i hin
    refine wpOp_mono (fun a'' W'' h' => ih _ a'' W'' ?_ h') (h.step hl hd hin hi (hs i o hin hd.op) hP)
    have h1 := open_set (n := n) hin (by omega : i < listed.size) (getD_both (mem_ready.1 hi).1)
    omega

/-- A region whose order is open, its first n operations in whatever order, the q-th of which is wild. -/
theorem region_wild {id : Nat} {l : List Oper} (n q : Nat) (hq : q < n) (Vs : Nat → Bool → Value → World → Prop) (hm : P.follows .mixedOrders = true) (hok : regionOk l.toArray n a.tmps.size = true) (hlast : Ok n0 q Vs)
    (hs : ∀ i o, i < n → l.toArray[i]? = some o → Step n0 q P l.toArray n a.tmps w.drew (fun c W => ∀ a', a'.defers = a.defers → Q (.panic c) a' W) Vs i o)
    (hfin : ∀ (vs : Nat → Value) (W : World), Bn n0 w W → (∀ i, i < n → Vs i true (vs i) W) → wpList P l.toArray Q (l.drop n) (lay l.toArray vs n a) W) :
    (Code.region id l.toArray true).wp P Q a w := by
  simp only [regionOk, Bool.and_eq_true, Bool.or_eq_true, decide_eq_true_eq] at hok
  obtain ⟨⟨⟨hn, hh⟩, ht⟩, hseq⟩ := hok
  have hnl : n ≤ l.length := by simpa using hn
  have hheads := heads_of hh
  have inv0 : HeadInv .any l.toArray n (Array.replicate l.toArray.size false) :=
    ⟨by simp, fun j oj _ hl => (by rw [getD_replicate_false] at hl; cases hl), fun t _ ht => getD_in (by simpa using ht) (getD_replicate_false _ _)⟩
  have hopen : open_ n (Array.replicate l.toArray.size false) = n := by
    unfold open_
    rw [List.filter_eq_self.2 fun i _ => by rw [getD_replicate_false]; rfl]
    simp
  have h0 : HI n0 q l.toArray n Vs a w.drew (Array.replicate l.toArray.size false) a w.drew :=
    ⟨inv0, Bn.refl _ _, rfl, rfl, fun i d _ _ hl => (by rw [getD_replicate_false] at hl; cases hl), fun _ _ => rfl⟩
  refine wp_region_any hm ?_
  have := wpAny_of_chain (P := P) (Q := Q) (n := n) (Vs := Vs) (n0 := n0) (q := q) (a := a) (w := w.drew) (l := l) hlast (Pan := fun c W => ∀ a', a'.defers = a.defers → Q (.panic c) a' W) hheads hnl
    (fun listed inv hun t htn hr => by
      rcases ht with ht | ht
      · obtain ⟨_, ot, hot, _⟩ := mem_ready.1 hr
        have := (Array.getElem?_eq_some_iff.1 hot).1
        omega
      · obtain ⟨i, hi, hx⟩ := hun
        by_cases hlt : n < l.toArray.size
        · exact tail_waits ht.1 ht.2 hlt inv _ i rfl hi hx t htn hr
        · obtain ⟨_, ot, hot, _⟩ := mem_ready.1 hr
          have := (Array.getElem?_eq_some_iff.1 hot).1
          omega)
    (by simpa using hseq) hs (fun c W hp a' hd => hp a' hd)
    (fun a' W hI => by
      have e : a' = lay l.toArray (fun i => a'.tmps.getD (((l.toArray[i]?).bind (·.dst)).getD 0) undef) n a := by
        have ed : a'.defers = (lay l.toArray (fun i => a'.tmps.getD (((l.toArray[i]?).bind (·.dst)).getD 0) undef) n a).defers := by rw [lay_defers]; exact hI.defers
        have et : a'.tmps = (lay l.toArray (fun i => a'.tmps.getD (((l.toArray[i]?).bind (·.dst)).getD 0) undef) n a).tmps := by
          refine Array.ext (by rw [lay_size]; exact hI.size) fun t h1 h2 => ?_
          have h3 : t < a.tmps.size := by rw [← hI.size]; exact h1
          refine Option.some.inj ?_
          rw [← Array.getElem?_eq_getElem h1, ← Array.getElem?_eq_getElem h2]
          cases hf : fills l.toArray n t with
          | none =>
            rw [lay_other _ n a fun i hi => fills_none hf i hi]
            have := hI.rest t fun i hi hd => absurd hd (fills_none hf i hi)
            simp only [Array.getD_eq_getD_getElem?, Array.getElem?_eq_getElem h1, Array.getElem?_eq_getElem h3, Option.getD_some] at this
            rw [Array.getElem?_eq_getElem h1, Array.getElem?_eq_getElem h3, this]
          | some k =>
            obtain ⟨hk, hd⟩ := fills_some hf
            obtain ⟨o, d, hdk⟩ := hheads k hk
            have hdt : d = t := by rw [hdk.op] at hd; exact Option.some.inj (hdk.dst.symm.trans hd)
            subst hdt
            rw [lay_at _ n a hk hd h3 hdk.only, hd]
            simp only [Option.getD_some, Array.getD_eq_getD_getElem?, Array.getElem?_eq_getElem h1]
        cases a'; cases hlay : lay l.toArray _ n a
        rw [hlay] at ed et
        simp only at ed et
        rw [ed, et]
      rw [e]
      refine hfin _ W (Bn.trans (b := w.drew) ⟨rfl, rfl, rfl, Nat.le_refl _, fun _ _ => rfl⟩ hI.grow) fun i hi => ?_
      obtain ⟨o, d, hd⟩ := hheads i hi
      have hdd : (l.toArray[i]?).bind (·.dst) = some d := by rw [hd.op]; exact hd.dst
      have := hI.done i d hi hdd (by simp [half, hi, show i < l.length by omega])
      rw [show (half n l.length).getD q false = true by simp [half, hq, show q < l.length by omega]] at this
      simp only [hdd, Option.getD_some]
      exact hlast.weak' (listed := half n l.length) (by simp [half, hi, show i < l.length by omega]) (by rw [show (half n l.length).getD q false = true by simp [half, hq, show q < l.length by omega]]; exact this))
    n (Array.replicate l.toArray.size false) a w.drew hopen h0
  rw [show n + (l.length - n) = l.toArray.size by simp; omega] at this
  exact this

theorem Step.mk2 {n i : Nat} {tm : Array Value} {w : World} {Pan : List PanicEntry → World → Prop} {Vs : Nat → Bool → Value → World → Prop} {o : Oper} {D : List (Tmp × Option Nat)} (Ls : List (Value → World → Prop)) (hg : o.guard = none) (hLs : Lof Vs q i = Ls.reverse) (hlen : Ls.length = i) (hD : (looks ops o).map (place ops n i) = D)
    (h : ∀ (ρ : Operand → Value) (W : World), Plain ρ → Bn n0 w W → FactsD Ls tm ρ W D → ∀ K : Result Next → Prop, (∀ r, Gives n0 (decide (i = q)) P W (Vs i (decide (i = q))) Pan r → K r) → K ((execOp ρ o).run P W)) : Step n0 q P ops n tm w Pan Vs i o :=
  fun ρ W hp hG hF => ⟨fun _ => h ρ W hp hG (by rw [← hD]; rw [hLs] at hF; exact FactsD.of hlen hF) _ fun _ h => h, fun hno => absurd (show Lets ops ρ o by simp [Lets, hg]) hno⟩
end
end Dq
end Go.Proofs.Ytjlaoiimbhlafaa
