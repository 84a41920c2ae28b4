import Derived.Test.YtjlaoiimbhlafaaP2
set_option linter.unusedVariables false
set_option linter.unusedSimpArgs false
namespace Go.Proofs.Ytjlaoiimbhlafaa
open Go.RowKit

/-! The rule for a region whose order is open, over any relation of worlds. -/
structure Rel where
  r : World → World → Prop
  same : ∀ w, r w w
  tr : ∀ a b c, r a b → r b c → r a c
  of : ∀ a b, Gr a b → r a b
  size : ∀ a b, r a b → a.heap.size ≤ b.heap.size
theorem Rel.r.tr {A : Rel} {a b c : World} (h : A.r a b) (k : A.r b c) : A.r a c := A.tr _ _ _ h k
theorem Rel.r.size {A : Rel} {a b : World} (h : A.r a b) : a.heap.size ≤ b.heap.size := A.size _ _ h
namespace Gn
def Lasts (A : Rel) (V : Value → World → Prop) : Prop := ∀ v W W', V v W → A.r W W' → V v W'
theorem Lasts.eq {A : Rel} (c : Value) : Lasts A (fun v _ => v = c) := fun _ _ _ h _ => h

def Gives (A : Rel) (P : Program) (W : World) (V : Value → World → Prop) (Pan : List PanicEntry → World → Prop) : Result Next → Prop
  | .ok (.value v) w' => V v w' ∧ A.r W w'
  | .ok .skip w' => V undef w' ∧ A.r W w'
  | .ok (.enter f args) w' => A.r W w' ∧ Calls P f args w' fun e w'' => match e with
      | .returned v => V v w'' ∧ A.r w' w''
      | .panicked c => Pan c w''
      | .outgrown => False
  | .halt (.panic v) w' => Pan [{ v, recovered := false }] w'
  | _ => False

section
variable {A : Rel} {P : Program} {ops : Array Oper} {Q : Exit → Act → World → Prop} {md : Region.Mode}
structure HI (A : Rel) (ops : Array Oper) (n : Nat) (Vs : Nat → Value → World → Prop) (a : Act) (w : World) (listed : Array Bool) (a' : Act) (W : World) : Prop where
  inv : HeadInv .any ops n listed
  grow : A.r w W
  defers : a'.defers = a.defers
  size : a'.tmps.size = a.tmps.size
  done : ∀ i d, i < n → (ops[i]?).bind (·.dst) = some d → listed.getD i false = true → Vs i (a'.tmps.getD d undef) W
  rest : ∀ t, (∀ i, i < n → (ops[i]?).bind (·.dst) = some t → listed.getD i false = false) → a'.tmps.getD t undef = a.tmps.getD t undef

variable {n : Nat} {Vs : Nat → Value → World → Prop} {a a' : Act} {w W W' : World} {listed : Array Bool}
theorem HI.set (h : HI A ops n Vs a w listed a' W) (hl : ∀ i, Lasts A (Vs i)) {i d : Nat} {o : Oper} (hd : HeadOk ops n a.tmps.size i o d) (hin : i < n) (hr : i ∈ Region.ready .any ops listed) {v : Value} (hv : Vs i v W') (hg : A.r W W') :
    HI A ops n Vs a w (listed.setIfInBounds i true) (a'.put (some d) v) W' := by
  have his : i < listed.size := by
    rw [h.inv.size]; exact (Array.getElem?_eq_some_iff.1 hd.op).1
  have hdd : (ops[i]?).bind (·.dst) = some d := by rw [hd.op]; exact hd.dst
  refine ⟨h.inv.set hr hin, h.grow.tr hg, h.defers, by simpa [Act.put] using h.size, fun j e hj hje hl' => ?_, fun t ht => ?_⟩
  · by_cases hij : i = j
    · subst hij
      have : d = e := Option.some.inj (hdd.symm.trans hje)
      subst this
      have hs : d < a'.tmps.size := by rw [h.size]; exact hd.lt
      simpa [Act.put, hs] using hv
    · rw [getD_set_ne false hij] at hl'
      have hne : d ≠ e := fun e' => hij (hd.only j hj (by rw [hje, e'])).symm
      have := hl j _ _ _ (h.done j e hj hje hl') hg
      simpa [Act.put, Array.getElem?_setIfInBounds_ne hne] using this
  · have hne : d ≠ t := fun e => by
      have := ht i hin (by rw [hdd, e])
      rw [listed_set_self his] at this
      cases this
    have := h.rest t fun j hj hjt => by
      have h1 := ht j hj hjt
      by_cases hij : i = j
      · subst hij; exact absurd (Option.some.inj (hdd.symm.trans hjt)) hne
      · rwa [getD_set_ne false hij] at h1
    simpa [Act.put, Array.getElem?_setIfInBounds_ne hne] using this

end
def LastsB (A : Rel) (V : VB) : Prop := ∀ p, Lasts A (V p)
theorem LastsB.ex {A : Rel} {V : VB} (h : LastsB A V) : Lasts A (exB V) := fun v W W' ⟨p, hp⟩ hg => ⟨p, h p v W W' hp hg⟩
def GivesB (A : Rel) (P : Program) (W : World) (V : VB) (Pan : List PanicEntry → World → Prop) : Result Next → Prop
  | .ok (.value v) w' => V (W.heap.size, w'.heap.size) v w' ∧ A.r W w'
  | .ok .skip w' => V (W.heap.size, w'.heap.size) undef w' ∧ A.r W w'
  | .ok (.enter f args) w' => A.r W w' ∧ Calls P f args w' fun e w'' => match e with
      | .returned v => V (W.heap.size, w''.heap.size) v w'' ∧ A.r w' w''
      | .panicked c => Pan c w''
      | .outgrown => False
  | .halt (.panic v) w' => Pan [{ v, recovered := false }] w'
  | _ => False
theorem GivesB.of {A : Rel} {P : Program} {W : World} {V : Value → World → Prop} {Pan : List PanicEntry → World → Prop} {r : Result Next} (h : Gives A P W V Pan r) : GivesB A P W (fun _ => V) Pan r := by
  cases r with
  | ok nx w' => cases nx <;> exact h
  | halt x w' => cases x <;> exact h

section
variable {A : Rel} {P : Program} {ops : Array Oper} {Q : Exit → Act → World → Prop} {n : Nat} {Vs : Nat → VB} {a a' : Act} {w W W' : World} {listed : Array Bool}

def StepB (A : Rel) (P : Program) (ops : Array Oper) (n : Nat) (tm : Array Value) (w : World) (Pan : List PanicEntry → World → Prop) (Ls : List (Value → World → Prop)) (o : Oper) (V : VB) : Prop :=
  ∀ (ρ : Operand → Value) (W : World), Plain ρ → A.r w W → Facts ops n Ls tm ρ W (looks ops o) →
    (Lets ops ρ o → GivesB A P W V Pan ((execOp ρ o).run P W)) ∧ (¬ Lets ops ρ o → V (W.heap.size, W.heap.size) undef W)

structure HB (A : Rel) (ops : Array Oper) (n : Nat) (Vs : Nat → VB) (bs : Nat → Nat × Nat) (a : Act) (w : World) (listed : Array Bool) (a' : Act) (W : World) : Prop where
  hi : HI A ops n (fun i => exB (Vs i)) a w listed a' W
  done : ∀ i d, i < n → (ops[i]?).bind (·.dst) = some d → listed.getD i false = true → Vs i (bs i) (a'.tmps.getD d undef) W
  disj : ∀ i j, i < n → j < n → i ≠ j → listed.getD i false = true → listed.getD j false = true → (bs i).2 ≤ (bs j).1 ∨ (bs j).2 ≤ (bs i).1
  top : ∀ i, i < n → listed.getD i false = true → (bs i).2 ≤ W.heap.size

theorem HB.set {bs : Nat → Nat × Nat} (h : HB A ops n Vs bs a w listed a' W) (hl : ∀ i, LastsB A (Vs i)) {i d : Nat} {o : Oper} (hd : HeadOk ops n a.tmps.size i o d) (hin : i < n) (hr : i ∈ Region.ready .any ops listed) {v : Value} (hv : Vs i (W.heap.size, W'.heap.size) v W') (hg : A.r W W') :
    ∃ bs', HB A ops n Vs bs' a w (listed.setIfInBounds i true) (a'.put (some d) v) W' := by
  have hdd : (ops[i]?).bind (·.dst) = some d := by rw [hd.op]; exact hd.dst
  have hs : d < a'.tmps.size := by rw [h.hi.size]; exact hd.lt
  refine ⟨fun j => if j = i then (W.heap.size, W'.heap.size) else bs j, h.hi.set (fun i => (hl i).ex) hd hin hr ⟨_, hv⟩ hg, fun j e hj hje hl' => ?_, fun j k hj hk hjk h1 h2 => ?_, fun j hj h1 => ?_⟩
  · by_cases hij : j = i
    · subst hij
      have : d = e := Option.some.inj (hdd.symm.trans hje)
      subst this
      simpa [Act.put, hs] using hv
    · rw [getD_set_ne false (fun e => hij e.symm)] at hl'
      have hne : d ≠ e := fun e' => hij (hd.only j hj (by rw [hje, e']))
      have := hl j _ _ _ _ (h.done j e hj hje hl') hg
      simpa [Act.put, Array.getElem?_setIfInBounds_ne hne, hij] using this
  · by_cases hji : j = i
    · subst hji
      have hk' : k ≠ j := fun e => hjk e.symm
      rw [getD_set_ne false hjk] at h2
      simp only [if_true, hk', if_false]
      exact .inr (h.top k hk h2)
    · rw [getD_set_ne false (fun e => hji e.symm)] at h1
      by_cases hki : k = i
      · subst hki
        simp only [if_true, hji, if_false]
        exact .inl (h.top j hj h1)
      · rw [getD_set_ne false (fun e => hki e.symm)] at h2
        simp only [hji, hki, if_false]
        exact h.disj j k hj hk hjk h1 h2
  · by_cases hji : j = i
    · subst hji
      simp
    · rw [getD_set_ne false (fun e => hji e.symm)] at h1
      simp only [hji, if_false]
      exact Nat.le_trans (h.top j hj h1) hg.size

theorem HB.step {bs : Nat → Nat × Nat} (h : HB A ops n Vs bs a w listed a' W) (hl : ∀ i, LastsB A (Vs i)) {L : List (Value → World → Prop)} {Pan : List PanicEntry → World → Prop} {i d : Nat} {o : Oper} (hd : HeadOk ops n a.tmps.size i o d) (hin : i < n) (hr : i ∈ Region.ready .any ops listed)
    (hL : ∀ j, j < i → L.getD j (fun _ _ => True) = exB (Vs j)) (hs : StepB A P ops n a.tmps w Pan L o (Vs i))
    (hP : ∀ c W, Pan c W → ∀ a', a'.defers = a.defers → Q (.panic c) a' W) :
    wpOp P ops Q i (fun a' W => ∃ bs', HB A ops n Vs bs' a w (listed.setIfInBounds i true) a' W) a' W := by
  obtain ⟨_, oi, hoi, hall⟩ := mem_ready.1 hr
  have : oi = o := Option.some.inj (hoi.symm.trans hd.op)
  subst this
  have hf : Facts ops n L a.tmps a'.eval W (looks ops oi) := Facts.mk fun t ht => by
    unfold Fact
    cases hfl : fills ops n t with
    | none => exact h.hi.rest t fun j hj hjt => absurd hjt (fills_none hfl j hj)
    | some j =>
      obtain ⟨hjn, hjd⟩ := fills_some hfl
      obtain ⟨hji, hw⟩ := hd.sees t ht j hfl
      obtain ⟨oj, hoj, e, he, hb, hon⟩ := Region.waitsFor_spec hw
      have : oj = oi := Option.some.inj (hoj.symm.trans hd.op)
      subst this
      have h1 := hall e he hb
      rw [hon] at h1
      have h2 := h.hi.done j t hjn hjd h1
      simp only [hL j hji]
      exact h2
  obtain ⟨s1, s2⟩ := hs a'.eval W (Plain.eval a') h.hi.grow hf
  unfold wpOp
  simp only [hd.op]
  by_cases hw : Region.wanted oi (yielded ops a'.tmps) = true
  · rw [if_pos hw]
    refine .inl ?_
    have h1 := s1 (lets_of_wanted.1 hw)
    unfold Oper.wp
    have key : ∀ v W', Vs i (W.heap.size, W'.heap.size) v W' → A.r W W' → ∃ bs', HB A ops n Vs bs' a w (listed.setIfInBounds i true) (a'.put (some d) v) W' := fun v W' hv hg => h.set hl hd hin hr hv hg
    cases hrun : (execOp a'.eval oi).run P W with
    | ok nx w' =>
      rw [hrun] at h1
      cases nx <;> simp only [GivesB] at h1 <;> simp only [Oper.upon, hd.dst]
      case value v => exact key _ _ h1.1 h1.2
      case skip => exact key _ _ h1.1 h1.2
      case enter f args =>
        refine h1.2.mono fun e w'' he => ?_
        cases e with
        | returned v => exact key _ _ he.1 (h1.1.tr he.2)
        | panicked c => exact hP _ _ he _ h.hi.defers
        | outgrown => exact he.elim
    | halt x w' =>
      rw [hrun] at h1
      cases x <;> simp only [GivesB] at h1
      case panic v => exact hP _ _ h1 _ h.hi.defers
  · rw [if_neg hw, hd.dst]
    exact h.set hl hd hin hr (s2 fun hl' => hw (lets_of_wanted.2 hl')) (A.same W)

theorem wpAny_of_chainB {l : List Oper} (hl : ∀ i, LastsB A (Vs i)) {Pan : List PanicEntry → World → Prop} (L : List (Value → World → Prop))
    (hheads : ∀ k, k < n → ∃ o d, HeadOk l.toArray n a.tmps.size k o d) (hnl : n ≤ l.length)
    (htw : ∀ listed, HeadInv .any l.toArray n listed → (∃ i, i < n ∧ listed.getD i true = false) → ∀ t, n ≤ t → t ∉ Region.ready .any l.toArray listed)
    (hseq : Region.seqB .any l.toArray (l.length - n) n (half n l.length) = true)
    (hL : ∀ j, j < n → L.getD j (fun _ _ => True) = exB (Vs j)) (hs : ∀ i o, i < n → l.toArray[i]? = some o → StepB A P l.toArray n a.tmps w Pan (L.take i) o (Vs i))
    (hP : ∀ c W, Pan c W → ∀ a', a'.defers = a.defers → Q (.panic c) a' W)
    (hfin : ∀ bs a' W, HB A l.toArray n Vs bs a w (half n l.length) a' W → wpList P l.toArray Q (l.drop n) a' W) :
    ∀ (c : Nat) (listed : Array Bool) (a' : Act) (W : World), open_ n listed = c → (∃ bs, HB A l.toArray n Vs bs a w listed a' W) → wpAny P .any l.toArray Q (c + (l.length - n)) listed a' W := by
  intro c
  induction c with
  | zero =>
    intro listed a' W hc ⟨bs, h⟩
    have he : listed = half n l.length := by
      refine Array.ext (by rw [h.hi.inv.size]; simp [half]) fun i h1 h2 => ?_
      have h1' : i < l.length := by have := h.hi.inv.size; simp at this; omega
      by_cases hin : i < n
      · have := open_zero hc i hin
        simp only [Array.getD_eq_getD_getElem?, Array.getElem?_eq_getElem h1, Option.getD_some] at this
        simp [half, this, hin]
      · have := h.hi.inv.tail i (by omega) (by simpa using h1')
        simp only [Array.getD_eq_getD_getElem?, Array.getElem?_eq_getElem h1, Option.getD_some] at this
        simp [half, this, hin]
    subst he
    have h1 := wpAny_of_seq (md := .any) (Q' := Q) (P := P) (ops := l.toArray) (l.drop n) n (half n l.length) a' W (fun j => by simp [List.getElem?_drop]) (by simpa using hseq) (hfin bs a' W h)
    simpa using h1
  | succ c ih =>
    intro listed a' W hc ⟨bs, h⟩
    rw [show c + 1 + (l.length - n) = (c + (l.length - n)) + 1 by omega]
    have hsz : listed.size = l.length := by simpa using h.hi.inv.size
    have hex : ∃ i, i < n ∧ listed.getD i false = false := by
      apply Classical.byContradiction
      intro hno
      have : open_ n listed = 0 := by
        unfold open_
        rw [List.length_eq_zero_iff, List.filter_eq_nil_iff]
        intro i hi
        have hi' := List.mem_range.1 hi
        cases hx : listed.getD i false with
        | true => simp
        | false => exact absurd ⟨i, hi', hx⟩ hno
      omega
    have hun : ∃ i, i < n ∧ listed.getD i true = false := by
      obtain ⟨i, hi, hx⟩ := hex
      exact ⟨i, hi, getD_in (by omega) hx⟩
    have hready : Region.ready .any l.toArray listed ≠ [] := by
      obtain ⟨i, hi, hx, hleast⟩ := exists_first n hex
      obtain ⟨o, d, hd⟩ := hheads i hi
      have : i ∈ Region.ready .any l.toArray listed := by
        refine mem_ready.2 ⟨getD_in (by omega) hx, o, hd.op, fun e he hb => ?_⟩
        have := hleast e.on (hd.early e he hb)
        simpa using this
      intro h0
      rw [h0] at this
      cases this
    refine ⟨fun h0 => absurd h0 hready, fun i hi => ?_⟩
    have hin : i < n := by
      rcases Nat.lt_or_ge i n with h' | h'
      · exact h'
      · exact absurd hi (htw listed h.hi.inv hun i h')
    obtain ⟨o, d, hd⟩ := hheads i hin
    have hLi : ∀ j, j < i → (L.take i).getD j (fun _ _ => True) = exB (Vs j) := fun j hj => by
      rw [← hL j (by omega)]
      simp [hj]
    refine wpOp_mono (fun a'' W'' h' => ih _ a'' W'' ?_ h') (h.step hl hd hin hi hLi (hs i o hin hd.op) hP)
    have h1 := open_set (n := n) hin (by omega : i < listed.size) (getD_both (mem_ready.1 hi).1)
    omega

def Step2B (A : Rel) (P : Program) (ops : Array Oper) (n : Nat) (tm : Array Value) (w : World) (Pan : List PanicEntry → World → Prop) (Bs : List VB) (k : Nat) (o : Oper) (V : VB) : Prop :=
  ∃ D, (looks ops o).map (place ops n k) = D ∧ ∀ (ρ : Operand → Value) (W : World), Plain ρ → A.r w W → FactsD (Bs.map exB) tm ρ W D →
    (Lets ops ρ o → GivesB A P W V Pan ((execOp ρ o).run P W)) ∧ (¬ Lets ops ρ o → V (W.heap.size, W.heap.size) undef W)
def Chain2B (A : Rel) (P : Program) (ops : Array Oper) (n : Nat) (tm : Array Value) (w : World) (Pan : List PanicEntry → World → Prop) : List Oper → Nat → List VB → (List VB → Prop) → Prop
  | [], _, Bs, fin => fin Bs
  | o :: r, k, Bs, fin => ∃ V, LastsB A V ∧ Step2B A P ops n tm w Pan Bs k o V ∧ Chain2B A P ops n tm w Pan r (k + 1) (V :: Bs) fin
variable {tm : Array Value} {Pan : List PanicEntry → World → Prop} {o : Oper} {r : List Oper} {Bs : List VB} {fin : List VB → Prop} {k : Nat}
theorem Chain2B.vs {l : List Oper} : ∀ (r : List Oper) (k : Nat) (Bs : List VB), Bs.length = k → (∀ V ∈ Bs, LastsB A V) →
    (∀ j o, j < k → l.toArray[j]? = some o → StepB A P l.toArray n tm w Pan ((Bs.map exB).reverse.take j) o (Bs.reverse.getD j fun _ _ _ => True)) →
    (∀ j, j < r.length → r[j]? = l.toArray[k + j]?) → Chain2B A P l.toArray n tm w Pan r k Bs fin →
    ∃ L : List VB, L.length = k + r.length ∧ (∀ V ∈ L, LastsB A V) ∧ (∀ j o, j < k + r.length → l.toArray[j]? = some o → StepB A P l.toArray n tm w Pan ((L.map exB).reverse.take j) o (L.reverse.getD j fun _ _ _ => True)) ∧ fin L
  | [], k, Bs, h1, h2, h3, _, h => ⟨Bs, by simpa using h1, h2, by simpa using h3, h⟩
  | o :: r, k, Bs, h1, h2, h3, h4, h => by
    obtain ⟨V, hV, ⟨D, hD, hst⟩, hrest⟩ := h
    have h0 : l.toArray[k]? = some o := by simpa using (h4 0 (by simp)).symm
    have := Chain2B.vs (l := l) r (k + 1) (V :: Bs) (by simp [h1]) (fun X hX => by
      rcases List.mem_cons.1 hX with rfl | hX
      · exact hV
      · exact h2 X hX) (fun j o' hj ho' => by
        by_cases hji : j = k
        · subst hji
          have : o' = o := Option.some.inj (ho'.symm.trans h0)
          subst this
          have e1 : ((V :: Bs).map exB).reverse.take j = (Bs.map exB).reverse := by rw [← h1]; simp
          have e2 : (V :: Bs).reverse.getD j (fun _ _ _ => True) = V := by rw [← h1]; simp
          rw [e1, e2]
          exact fun ρ W hp hG hF => hst ρ W hp hG (by rw [← hD]; exact FactsD.of (by simpa using h1) hF)
        · have hj' : j < k := by omega
          have := h3 j o' hj' ho'
          have e1 : ((V :: Bs).map exB).reverse.take j = (Bs.map exB).reverse.take j := by rw [List.map_cons, List.reverse_cons, List.take_append_of_le_length (by simp; omega)]
          have e2 : (V :: Bs).reverse.getD j (fun _ _ _ => True) = Bs.reverse.getD j (fun _ _ _ => True) := by
            simp [List.getElem?_append_left (show j < Bs.reverse.length by simp; omega)]
          rw [e1, e2]; exact this) (fun j hj => by
        have := h4 (j + 1) (by simp; omega)
        simpa [Nat.add_assoc, Nat.add_comm 1 j] using this) hrest
    obtain ⟨L, l1, l2, l3, l4⟩ := this
    exact ⟨L, by simp; omega, l2, fun j o' hj => l3 j o' (by simp at hj; omega), l4⟩

/-- A region whose order is open: of each of the first n a fact that lasts, and between which sizes of the heap it was carried out. -/
theorem regionB {id : Nat} {l : List Oper} (n : Nat) (hm : P.follows .mixedOrders = true) (hok : regionOk l.toArray n a.tmps.size = true)
    (h : Chain2B A P l.toArray n a.tmps w.drew (fun c W => ∀ a', a'.defers = a.defers → Q (.panic c) a' W) (l.take n) 0 [] fun Bs =>
      ∀ (vs : Nat → Value) (bs : Nat → Nat × Nat) (W : World), A.r w W → HoldsB Bs n vs bs W → (∀ i j, i < n → j < n → i ≠ j → (bs i).2 ≤ (bs j).1 ∨ (bs j).2 ≤ (bs i).1) → wpList P l.toArray Q (l.drop n) (lay l.toArray vs n a) W) :
    (Code.region id l.toArray true).wp P Q a w := by
  simp only [regionOk, Bool.and_eq_true, Bool.or_eq_true, decide_eq_true_eq] at hok
  obtain ⟨⟨⟨hn, hh⟩, ht⟩, hseq⟩ := hok
  have hnl : n ≤ l.length := by simpa using hn
  have htl : (l.take n).length = n := by simp; omega
  obtain ⟨L, l1, l2, l3, l4⟩ := Chain2B.vs (l := l) (l.take n) 0 [] rfl (by simp) (fun j o hj => by omega) (fun j hj => by
    have hj' : j < n := by rw [htl] at hj; exact hj
    simp [hj']) h
  rw [htl] at l1 l3
  have hheads := heads_of hh
  have hlast : ∀ i, LastsB A (L.reverse.getD i fun _ _ _ => True) := fun i => by
    rcases Nat.lt_or_ge i L.length with h' | h'
    · have hm := List.getElem_mem (l := L.reverse) (n := i) (by simpa using h')
      rw [show L.reverse.getD i (fun _ _ _ => True) = L.reverse[i]'(by simpa using h') by rw [List.getD_eq_getElem?_getD, List.getElem?_eq_getElem (by simpa using h')]; rfl]
      exact l2 _ (List.mem_reverse.1 hm)
    · rw [show L.reverse.getD i (fun _ _ _ => True) = fun _ _ _ => True by rw [List.getD_eq_getElem?_getD, List.getElem?_eq_none (by simpa using h')]; rfl]
      exact fun _ _ _ _ _ _ => trivial
  have inv0 : HeadInv .any l.toArray n (Array.replicate l.toArray.size false) :=
    ⟨by simp, fun j oj _ hl => (by rw [getD_replicate_false] at hl; cases hl), fun t _ ht => getD_in (by simpa using ht) (getD_replicate_false _ _)⟩
  have h0 : HB A l.toArray n (fun i => L.reverse.getD i fun _ _ _ => True) (fun _ => (0, 0)) a w.drew (Array.replicate l.toArray.size false) a w.drew :=
    ⟨⟨inv0, A.same _, rfl, rfl, fun i d _ _ hl => (by rw [getD_replicate_false] at hl; cases hl), fun _ _ => rfl⟩, fun i d _ _ hl => (by rw [getD_replicate_false] at hl; cases hl), fun i j _ _ _ hl => (by rw [getD_replicate_false] at hl; cases hl), fun i _ hl => (by rw [getD_replicate_false] at hl; cases hl)⟩
  have hopen : open_ n (Array.replicate l.toArray.size false) = n := by
    unfold open_
    rw [List.filter_eq_self.2 fun i _ => by rw [getD_replicate_false]; rfl]
    simp
  refine wp_region_any hm ?_
  have := wpAny_of_chainB (P := P) (Q := Q) (n := n) (Vs := fun i => L.reverse.getD i fun _ _ _ => True) (a := a) (w := w.drew) (l := l) hlast (Pan := fun c W => ∀ a', a'.defers = a.defers → Q (.panic c) a' W) (L.map exB).reverse hheads hnl
    (fun listed inv hun t htn hr => by
      rcases ht with ht | ht
      · obtain ⟨_, ot, hot, _⟩ := mem_ready.1 hr
        have := (Array.getElem?_eq_some_iff.1 hot).1
        omega
      · obtain ⟨i, hi, hx⟩ := hun
        by_cases hlt : n < l.toArray.size
        · exact tail_waits ht.1 ht.2 hlt inv _ i rfl hi hx t htn hr
        · obtain ⟨_, ot, hot, _⟩ := mem_ready.1 hr
          have := (Array.getElem?_eq_some_iff.1 hot).1
          omega)
    (by simpa using hseq) (fun j hj => by
      rw [← List.map_reverse]
      simp only [List.getD_eq_getElem?_getD, List.getElem?_map]
      rw [List.getElem?_eq_getElem (by simp; omega)]
      rfl) (fun i o hi ho => l3 i o (by omega) ho) (fun c W hp a' hd => hp a' hd)
    (fun bs a' W hB => by
      have hI := hB.hi
      have e : a' = lay l.toArray (fun i => a'.tmps.getD (((l.toArray[i]?).bind (·.dst)).getD 0) undef) n a := by
        have ed : a'.defers = (lay l.toArray (fun i => a'.tmps.getD (((l.toArray[i]?).bind (·.dst)).getD 0) undef) n a).defers := by rw [lay_defers]; exact hI.defers
        have et : a'.tmps = (lay l.toArray (fun i => a'.tmps.getD (((l.toArray[i]?).bind (·.dst)).getD 0) undef) n a).tmps := by
          refine Array.ext (by rw [lay_size]; exact hI.size) fun t h1 h2 => ?_
          have h3 : t < a.tmps.size := by rw [← hI.size]; exact h1
          refine Option.some.inj ?_
          rw [← Array.getElem?_eq_getElem h1, ← Array.getElem?_eq_getElem h2]
          cases hf : fills l.toArray n t with
          | none =>
            rw [lay_other _ n a fun i hi => fills_none hf i hi]
            have := hI.rest t fun i hi hd => absurd hd (fills_none hf i hi)
            simp only [Array.getD_eq_getD_getElem?, Array.getElem?_eq_getElem h1, Array.getElem?_eq_getElem h3, Option.getD_some] at this
            rw [Array.getElem?_eq_getElem h1, Array.getElem?_eq_getElem h3, this]
          | some k =>
            obtain ⟨hk, hd⟩ := fills_some hf
            obtain ⟨o, d, hdk⟩ := hheads k hk
            have hdt : d = t := by rw [hdk.op] at hd; exact Option.some.inj (hdk.dst.symm.trans hd)
            subst hdt
            rw [lay_at _ n a hk hd h3 hdk.only, hd]
            simp only [Option.getD_some, Array.getD_eq_getD_getElem?, Array.getElem?_eq_getElem h1]
        cases a'; cases hlay : lay l.toArray _ n a
        rw [hlay] at ed et
        simp only at ed et
        rw [ed, et]
      rw [e]
      have hhalf : ∀ i, i < n → (half n l.length).getD i false = true := fun i hi => by simp [half, hi, show i < l.length by omega]
      have hho := HoldsB.of (Bs := L) (vs := fun i => a'.tmps.getD (((l.toArray[i]?).bind (·.dst)).getD 0) undef) (bs := bs) (W := W) fun i hi => by
        obtain ⟨o, d, hd⟩ := hheads i (by omega)
        have hdd : (l.toArray[i]?).bind (·.dst) = some d := by rw [hd.op]; exact hd.dst
        have := hB.done i d (by omega) hdd (hhalf i (by omega))
        simp only [hdd, Option.getD_some]
        exact this
      rw [show L.length = n by omega] at hho
      exact l4 _ bs W ((A.of _ _ (Gr.drew w)).tr hI.grow) hho fun i j hi hj hij => hB.disj i j hi hj hij (hhalf i hi) (hhalf j hj))
    n (Array.replicate l.toArray.size false) a w.drew hopen ⟨_, h0⟩
  rw [show n + (l.length - n) = l.toArray.size by simp; omega] at this
  exact this

variable {D : List (Tmp × Option Nat)} {V : VB}
theorem chainB_any (hg : o.guard = none) (hD : (looks ops o).map (place ops n k) = D) (hV : LastsB A V) (h : ∀ (ρ : Operand → Value) (W : World), Plain ρ → A.r w W → FactsD (Bs.map exB) tm ρ W D → ∀ K : Result Next → Prop, (∀ r, GivesB A P W V Pan r → K r) → K ((execOp ρ o).run P W))
    (hr : Chain2B A P ops n tm w Pan r (k + 1) (V :: Bs) fin) : Chain2B A P ops n tm w Pan (o :: r) k Bs fin :=
  ⟨V, hV, ⟨D, hD, fun ρ W hp hG hF => ⟨fun _ => h ρ W hp hG hF _ fun _ h => h, fun hno => absurd (show Lets ops ρ o by simp [Lets, hg]) hno⟩⟩, hr⟩
/-- An operation of which a fact is known that names no size. -/
theorem chainB_fact {V : Value → World → Prop} (hg : o.guard = none) (hD : (looks ops o).map (place ops n k) = D) (hV : Lasts A V) (h : ∀ (ρ : Operand → Value) (W : World), Plain ρ → A.r w W → FactsD (Bs.map exB) tm ρ W D → ∀ K : Result Next → Prop, (∀ r, Gives A P W V Pan r → K r) → K ((execOp ρ o).run P W))
    (hr : Chain2B A P ops n tm w Pan r (k + 1) ((fun _ => V) :: Bs) fin) : Chain2B A P ops n tm w Pan (o :: r) k Bs fin :=
  chainB_any hg hD (fun _ => hV) (fun ρ W hp hG hF K hK => h ρ W hp hG hF K fun r hr => hK r (GivesB.of hr)) hr
theorem chainB_eq {c : Value} (hg : o.guard = none) (hD : (looks ops o).map (place ops n k) = D) (h : ∀ (ρ : Operand → Value) (W : World), Plain ρ → A.r w W → FactsD (Bs.map exB) tm ρ W D → ∀ K : Result Next → Prop, (∀ r, Gives A P W (fun v _ => v = c) Pan r → K r) → K ((execOp ρ o).run P W))
    (hr : Chain2B A P ops n tm w Pan r (k + 1) ((fun _ v _ => v = c) :: Bs) fin) : Chain2B A P ops n tm w Pan (o :: r) k Bs fin := chainB_fact hg hD (Lasts.eq c) h hr
theorem chainB_done (h : fin Bs) : Chain2B A P ops n tm w Pan [] k Bs fin := h
end
theorem gives_val {A : Rel} {P : Program} {Pan : List PanicEntry → World → Prop} {c : Value} {W : World} : Gives A P W (fun v _ => v = c) Pan (.ok (.value c) W) := ⟨rfl, A.same W⟩
end Gn
end Go.Proofs.Ytjlaoiimbhlafaa
