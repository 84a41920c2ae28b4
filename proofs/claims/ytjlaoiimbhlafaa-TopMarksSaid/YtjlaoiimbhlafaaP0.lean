/- A rule for a region whose order of evaluation is open: each operation but the last ones gives a value of which a lasting fact is known, whatever the order. -/
/- The rule for a region whose order is open, where two operations make memory: what they made is not the same. -/
/- The rule for a region whose order is open, where one operation may come behind the first of the tail. -/
/- The rule for a region whose order is open, once more: one operation among the first, a value that waits for nothing, may come late: it is taken first. -/
/- The rule for a region whose order is open, once more: one operation of the tail, an address or the like, that waits for nothing, is taken first. -/
import Derived.Test.YtjlaoiimbhlafaaRows
import Derived.WalkKit
import Derived.StillTail
import Derived.Lib.Hide
set_option linter.unusedVariables false
set_option linter.unusedSimpArgs false
namespace Go.Proofs.Ytjlaoiimbhlafaa
open Go.RowKit

/-- Nothing that is there turns. -/
def Gr (w w' : World) : Prop := Below w.heap.size w w'
theorem Gr.same (w : World) : Gr w w := Below.refl _ _
theorem Gr.tr {a b c : World} (h : Gr a b) (k : Gr b c) : Gr a c := Below.trans h (Below.mono k h.size)
theorem Gr.drew (w : World) : Gr w w.drew := (Below.refl _ _).drew
theorem Gr.alloc (w : World) (o : Obj) : Gr w (w.alloc o) := (Below.refl _ _).alloc (Nat.le_refl _) _

def Lasts (V : Value → World → Prop) : Prop := ∀ v W W', V v W → Gr W W' → V v W'
theorem Lasts.eq (c : Value) : Lasts (fun v _ => v = c) := fun _ _ _ h _ => h

/-- What an operation does, of which its value alone is asked. -/
def Gives (P : Program) (W : World) (V : Value → World → Prop) (Pan : List PanicEntry → World → Prop) : Result Next → Prop
  | .ok (.value v) w' => V v w' ∧ Gr W w'
  | .ok .skip w' => V undef w' ∧ Gr W w'
  | .ok (.enter f args) w' => Gr W w' ∧ Calls P f args w' fun e w'' => match e with
      | .returned v => V v w'' ∧ Gr w' w''
      | .panicked c => Pan c w''
      | .outgrown => False
  | .halt (.panic v) w' => Pan [{ v, recovered := false }] w'
  | _ => False

section
variable {P : Program} {ops : Array Oper} {Q : Exit → Act → World → Prop} {md : Region.Mode}

/-- The temporaries that an operation looks at. -/
def looks (ops : Array Oper) (o : Oper) : List Tmp := o.looksAt ops
/-- Which of the first n operations fills this temporary. -/
def fills (ops : Array Oper) (n : Nat) (t : Tmp) : Option Nat := (List.range n).find? fun i => ((ops[i]?).bind (·.dst)) == some t

def Fact (ops : Array Oper) (n : Nat) (Vs : List (Value → World → Prop)) (tm : Array Value) (ρ : Operand → Value) (W : World) (t : Tmp) : Prop :=
  match fills ops n t with
  | some j => (Vs.getD j (fun _ _ => True)) (ρ (.tmp t)) W
  | none => ρ (.tmp t) = tm.getD t undef
def Facts (ops : Array Oper) (n : Nat) (Vs : List (Value → World → Prop)) (tm : Array Value) (ρ : Operand → Value) (W : World) : List Tmp → Prop
  | [] => True
  | t :: ts => Fact ops n Vs tm ρ W t ∧ Facts ops n Vs tm ρ W ts

theorem Facts.mk {n : Nat} {Vs : List (Value → World → Prop)} {tm : Array Value} {ρ : Operand → Value} {W : World} : ∀ {l : List Tmp}, (∀ t ∈ l, Fact ops n Vs tm ρ W t) → Facts ops n Vs tm ρ W l
  | [], _ => trivial
  | _ :: _, h => ⟨h _ (by simp), Facts.mk fun t ht => h t (by simp [ht])⟩

/-- The values of constants and functions. -/
def Plain (ρ : Operand → Value) : Prop := (∀ v, ρ (.const v) = v) ∧ (∀ g, ρ (.global g) = .pointer (some ⟨g, 0, none⟩)) ∧ (∀ f, ρ (.func f) = .func (.func f) #[] #[])
theorem Plain.eval (a : Act) : Plain a.eval := ⟨fun _ => rfl, fun _ => rfl, fun _ => rfl⟩

/-- Whether the operation's guard lets it be carried out. -/
def Lets (ops : Array Oper) (ρ : Operand → Value) (o : Oper) : Prop :=
  match o.guard with
  | none => True
  | some (g, b) => match (ops[g]?).bind (·.dst) with
    | some t => ρ (.tmp t) = .bool b
    | none => False

def Step (P : Program) (ops : Array Oper) (n : Nat) (tm : Array Value) (w : World) (Pan : List PanicEntry → World → Prop) (Vs : List (Value → World → Prop)) (o : Oper) (V : Value → World → Prop) : Prop :=
  ∀ (ρ : Operand → Value) (W : World), Plain ρ → Gr w W → Facts ops n Vs tm ρ W (looks ops o) →
    (Lets ops ρ o → Gives P W V Pan ((execOp ρ o).run P W)) ∧ (¬ Lets ops ρ o → V undef W)

/-- The first n operations in the text's order: of each a lasting fact. -/
def Chain (P : Program) (ops : Array Oper) (n : Nat) (tm : Array Value) (w : World) (Pan : List PanicEntry → World → Prop) : List Oper → List (Value → World → Prop) → (List (Value → World → Prop) → Prop) → Prop
  | [], Vs, fin => fin Vs
  | o :: r, Vs, fin => ∃ V, Lasts V ∧ Step P ops n tm w Pan Vs o V ∧ Chain P ops n tm w Pan r (Vs ++ [V]) fin

/-- The values laid into their temporaries. -/
def lay (ops : Array Oper) (vs : Nat → Value) : Nat → Act → Act
  | 0, a => a
  | k + 1, a => (lay ops vs k a).put ((ops[k]?).bind (·.dst)) (vs k)

def headOk (ops : Array Oper) (n k : Nat) (size : Nat) : Bool :=
  match ops[k]? with
  | none => false
  | some o =>
    (match o.dst with
     | none => false
     | some d => decide (d < size) && decide (fills ops n d = some k)) &&
    ((looks ops o).all fun t => match fills ops n t with
      | none => true
      | some j => decide (j < k) && Region.waitsFor .any ops k j) &&
    o.after.all fun e => !Region.binds .any e || decide (e.on < k)

/-- The first n have come up, the others have not. -/
def half (n size : Nat) : Array Bool := ((List.range size).map fun i => decide (i < n)).toArray

def regionOk (ops : Array Oper) (n size : Nat) : Bool :=
  decide (n ≤ ops.size) && (List.range n).all (fun k => headOk ops n k size) && (decide (n = ops.size) || (Region.sinkB .any ops n && Region.chainB .any ops n)) && Region.seqB .any ops (ops.size - n) n (half n ops.size)

theorem fills_some {n : Nat} {t : Tmp} {j : Nat} (h : fills ops n t = some j) : j < n ∧ (ops[j]?).bind (·.dst) = some t := by
  unfold fills at h
  have h1 := List.find?_some h
  have h2 := List.mem_of_find?_eq_some h
  exact ⟨List.mem_range.1 h2, by simpa using h1⟩
theorem fills_none {n : Nat} {t : Tmp} (h : fills ops n t = none) (j : Nat) (hj : j < n) : (ops[j]?).bind (·.dst) ≠ some t := by
  unfold fills at h
  have h1 := List.find?_eq_none.1 h j (List.mem_range.2 hj)
  simpa using h1

structure HeadOk (ops : Array Oper) (n size k : Nat) (o : Oper) (d : Tmp) : Prop where
  op : ops[k]? = some o
  dst : o.dst = some d
  lt : d < size
  only : ∀ j, j < n → (ops[j]?).bind (·.dst) = some d → j = k
  sees : ∀ t ∈ looks ops o, ∀ j, fills ops n t = some j → j < k ∧ Region.waitsFor .any ops k j = true
  early : ∀ e ∈ o.after, Region.binds .any e = true → e.on < k

theorem fills_least {n : Nat} {d : Tmp} : ∀ {k j : Nat}, fills ops n d = some k → j < n → (ops[j]?).bind (·.dst) = some d → k ≤ j := by
  intro k j h hj hd
  unfold fills at h
  rcases Nat.lt_or_ge j k with hlt | hge
  · have h1 := List.find?_eq_some_iff_getElem.1 h
    obtain ⟨_, i, hi, hik, hno⟩ := h1
    have hik' : i = k := by simpa using hik
    subst hik'
    have := hno j hlt
    simp [hd] at this
  · exact hge

theorem headOk_spec {n k size : Nat} (h : headOk ops n k size = true) (hu : ∀ j d, j < n → (ops[j]?).bind (·.dst) = some d → fills ops n d = some j) : ∃ o d, HeadOk ops n size k o d := by
  unfold headOk at h
  split at h
  · cases h
  · rename_i o ho
    simp only [Bool.and_eq_true] at h
    obtain ⟨⟨h1, h2⟩, h3⟩ := h
    split at h1
    · cases h1
    · rename_i d hd
      simp only [Bool.and_eq_true, decide_eq_true_eq] at h1
      refine ⟨o, d, ho, hd, h1.1, fun j hj hjd => ?_, fun t ht j hf => ?_, fun e he hb => ?_⟩
      · exact Option.some.inj ((hu j d hj hjd).symm.trans h1.2)
      · have := List.all_eq_true.1 h2 t ht
        rw [hf] at this
        simpa using this
      · have := Array.all_eq_true_iff_forall_mem.1 h3 e he
        simpa [hb] using this

theorem heads_of {n size : Nat} (h : (List.range n).all (fun k => headOk ops n k size) = true) : ∀ k, k < n → ∃ o d, HeadOk ops n size k o d := by
  have hk : ∀ k, k < n → headOk ops n k size = true := fun k hk => List.all_eq_true.1 h k (List.mem_range.2 hk)
  refine fun k hk' => headOk_spec (hk k hk') fun j d hj hd => ?_
  have h1 := hk j hj
  unfold headOk at h1
  split at h1
  · cases h1
  · rename_i o ho
    simp only [Bool.and_eq_true] at h1
    obtain ⟨⟨h1, _⟩, _⟩ := h1
    split at h1
    · cases h1
    · rename_i d' hd'
      simp only [Bool.and_eq_true, decide_eq_true_eq] at h1
      simp only [ho, Option.bind_some, hd', Option.some.injEq] at hd
      rw [← hd]; exact h1.2

theorem lay_defers (vs : Nat → Value) : ∀ (k : Nat) (a : Act), (lay ops vs k a).defers = a.defers
  | 0, _ => rfl
  | k + 1, a => by
    unfold lay
    cases (ops[k]?).bind (·.dst) <;> simp [Act.put, lay_defers vs k a]
theorem lay_size (vs : Nat → Value) : ∀ (k : Nat) (a : Act), (lay ops vs k a).tmps.size = a.tmps.size
  | 0, _ => rfl
  | k + 1, a => by
    unfold lay
    cases (ops[k]?).bind (·.dst) <;> simp [Act.put, lay_size vs k a]
theorem lay_other (vs : Nat → Value) {t : Tmp} : ∀ (k : Nat) (a : Act), (∀ i, i < k → (ops[i]?).bind (·.dst) ≠ some t) → (lay ops vs k a).tmps[t]? = a.tmps[t]?
  | 0, _, _ => rfl
  | k + 1, a, h => by
    unfold lay
    have h1 := h k (by omega)
    have h2 := lay_other vs k a fun i hi => h i (by omega)
    cases hd : (ops[k]?).bind (·.dst) with
    | none => simpa [Act.put] using h2
    | some d =>
      have hne : d ≠ t := fun e => h1 (by rw [hd, e])
      simp [Act.put, Array.getElem?_setIfInBounds_ne hne, h2]
theorem lay_at (vs : Nat → Value) {d i : Nat} : ∀ (k : Nat) (a : Act), i < k → (ops[i]?).bind (·.dst) = some d → d < a.tmps.size → (∀ j, j < k → (ops[j]?).bind (·.dst) = some d → j = i) → (lay ops vs k a).tmps[d]? = some (vs i)
  | 0, _, h, _, _, _ => absurd h (by omega)
  | k + 1, a, hi, hd, hs, hu => by
    unfold lay
    by_cases hik : i = k
    · subst hik
      rw [hd]
      have : d < (lay ops vs i a).tmps.size := by rw [lay_size]; exact hs
      simp [Act.put, this]
    · have h2 := lay_at vs k a (by omega) hd hs fun j hj hjd => hu j (by omega) hjd
      cases hdk : (ops[k]?).bind (·.dst) with
      | none => simpa [Act.put] using h2
      | some d' =>
        have hne : d' ≠ d := fun e => hik (hu k (by omega) (by rw [hdk, e])).symm
        simp [Act.put, Array.getElem?_setIfInBounds_ne hne, h2]

structure HI (ops : Array Oper) (n : Nat) (Vs : Nat → Value → World → Prop) (a : Act) (w : World) (listed : Array Bool) (a' : Act) (W : World) : Prop where
  inv : HeadInv .any ops n listed
  grow : Gr w W
  defers : a'.defers = a.defers
  size : a'.tmps.size = a.tmps.size
  done : ∀ i d, i < n → (ops[i]?).bind (·.dst) = some d → listed.getD i false = true → Vs i (a'.tmps.getD d undef) W
  rest : ∀ t, (∀ i, i < n → (ops[i]?).bind (·.dst) = some t → listed.getD i false = false) → a'.tmps.getD t undef = a.tmps.getD t undef

variable {n : Nat} {Vs : Nat → Value → World → Prop} {a a' : Act} {w W W' : World} {listed : Array Bool}

theorem listed_set_self {i : Nat} (h : i < listed.size) : (listed.setIfInBounds i true).getD i false = true := by simp [h]

theorem HI.set (h : HI ops n Vs a w listed a' W) (hl : ∀ i, Lasts (Vs i)) {i d : Nat} {o : Oper} (hd : HeadOk ops n a.tmps.size i o d) (hin : i < n) (hr : i ∈ Region.ready .any ops listed) {v : Value} (hv : Vs i v W') (hg : Gr W W') :
    HI ops n Vs a w (listed.setIfInBounds i true) (a'.put (some d) v) W' := by
  have his : i < listed.size := by
    rw [h.inv.size]; exact (Array.getElem?_eq_some_iff.1 hd.op).1
  have hdd : (ops[i]?).bind (·.dst) = some d := by rw [hd.op]; exact hd.dst
  refine ⟨h.inv.set hr hin, h.grow.tr hg, h.defers, by simpa [Act.put] using h.size, fun j e hj hje hl' => ?_, fun t ht => ?_⟩
  · by_cases hij : i = j
    · subst hij
      have : d = e := Option.some.inj (hdd.symm.trans hje)
      subst this
      have hs : d < a'.tmps.size := by rw [h.size]; exact hd.lt
      simpa [Act.put, hs] using hv
    · rw [getD_set_ne false hij] at hl'
      have hne : d ≠ e := fun e' => hij (hd.only j hj (by rw [hje, e'])).symm
      have := hl j _ _ _ (h.done j e hj hje hl') hg
      simpa [Act.put, Array.getElem?_setIfInBounds_ne hne] using this
  · have hne : d ≠ t := fun e => by
      have := ht i hin (by rw [hdd, e])
      rw [listed_set_self his] at this
      cases this
    have := h.rest t fun j hj hjt => by
      have h1 := ht j hj hjt
      by_cases hij : i = j
      · subst hij; exact absurd (Option.some.inj (hdd.symm.trans hjt)) hne
      · rwa [getD_set_ne false hij] at h1
    simpa [Act.put, Array.getElem?_setIfInBounds_ne hne] using this

theorem lets_of_wanted {ops : Array Oper} {a : Act} {o : Oper} : Region.wanted o (yielded ops a.tmps) = true ↔ Lets ops a.eval o := by
  unfold Region.wanted Lets
  cases hg : o.guard with
  | none => simp
  | some p =>
    obtain ⟨g, b⟩ := p
    simp only [beq_iff_eq]
    unfold yielded
    cases ht : (ops[g]?).bind (·.dst) with
    | none => simp
    | some t =>
      simp only [Option.bind_some, Act.eval, Array.getD_eq_getD_getElem?]
      cases hv : a.tmps[t]? with
      | none => simp [undef]
      | some v => cases v <;> simp

theorem HI.step (h : HI ops n Vs a w listed a' W) (hl : ∀ i, Lasts (Vs i)) {L : List (Value → World → Prop)} {Pan : List PanicEntry → World → Prop} {i d : Nat} {o : Oper} (hd : HeadOk ops n a.tmps.size i o d) (hin : i < n) (hr : i ∈ Region.ready .any ops listed)
    (hL : ∀ j, j < i → L.getD j (fun _ _ => True) = Vs j) (hs : Step P ops n a.tmps w Pan L o (Vs i))
    (hP : ∀ c W, Pan c W → ∀ a', a'.defers = a.defers → Q (.panic c) a' W) :
    wpOp P ops Q i (HI ops n Vs a w (listed.setIfInBounds i true)) a' W := by
  obtain ⟨_, oi, hoi, hall⟩ := mem_ready.1 hr
  have : oi = o := Option.some.inj (hoi.symm.trans hd.op)
  subst this
  have hf : Facts ops n L a.tmps a'.eval W (looks ops oi) := Facts.mk fun t ht => by
    unfold Fact
    cases hfl : fills ops n t with
    | none =>
      exact h.rest t fun j hj hjt => absurd hjt (fills_none hfl j hj)
    | some j =>
      obtain ⟨hjn, hjd⟩ := fills_some hfl
      obtain ⟨hji, hw⟩ := hd.sees t ht j hfl
      obtain ⟨oj, hoj, e, he, hb, hon⟩ := Region.waitsFor_spec hw
      have : oj = oi := Option.some.inj (hoj.symm.trans hd.op)
      subst this
      have h1 := hall e he hb
      rw [hon] at h1
      have h2 := h.done j t hjn hjd h1
      simp only [hL j hji]
      exact h2
  obtain ⟨s1, s2⟩ := hs a'.eval W (Plain.eval a') h.grow hf
  unfold wpOp
  simp only [hd.op]
  by_cases hw : Region.wanted oi (yielded ops a'.tmps) = true
  · rw [if_pos hw]
    refine .inl ?_
    have h1 := s1 (lets_of_wanted.1 hw)
    unfold Oper.wp
    have key : ∀ v W', Vs i v W' → Gr W W' → HI ops n Vs a w (listed.setIfInBounds i true) (a'.put (some d) v) W' := fun v W' hv hg => h.set hl hd hin hr hv hg
    cases hrun : (execOp a'.eval oi).run P W with
    | ok nx w' =>
      rw [hrun] at h1
      cases nx <;> simp only [Gives] at h1 <;> simp only [Oper.upon, hd.dst]
      case value v => exact key _ _ h1.1 h1.2
      case skip => exact key _ _ h1.1 h1.2
      case enter f args =>
        refine h1.2.mono fun e w'' he => ?_
        cases e with
        | returned v => exact key _ _ he.1 (h1.1.tr he.2)
        | panicked c => exact hP _ _ he _ h.defers
        | outgrown => exact he.elim
    | halt x w' =>
      rw [hrun] at h1
      cases x <;> simp only [Gives] at h1
      case panic v => exact hP _ _ h1 _ h.defers
  · rw [if_neg hw, hd.dst]
    exact h.set hl hd hin hr (s2 fun hl' => hw (lets_of_wanted.2 hl')) (Gr.same W)

/-- How many of the first n have not come up. -/
def open_ (n : Nat) (listed : Array Bool) : Nat := ((List.range n).filter fun i => !listed.getD i false).length

theorem open_set {i : Nat} (hi : i < n) (hs : i < listed.size) (h : listed.getD i false = false) : open_ n listed = open_ n (listed.setIfInBounds i true) + 1 := by
  unfold open_
  induction n with
  | zero => omega
  | succ n ih =>
    rw [List.range_succ, List.filter_append, List.filter_append, List.length_append, List.length_append]
    by_cases hin : i = n
    · subst hin
      have e : (List.range i).filter (fun j => !(listed.setIfInBounds i true).getD j false) = (List.range i).filter (fun j => !listed.getD j false) := by
        refine List.filter_congr fun j hj => ?_
        rw [getD_set_ne false (by have := List.mem_range.1 hj; omega)]
      rw [e]
      have h1 : [i].filter (fun j => !listed.getD j false) = [i] := by rw [List.filter_cons_of_pos (by rw [h]; rfl)]; rfl
      have h2 : [i].filter (fun j => !(listed.setIfInBounds i true).getD j false) = [] := by rw [List.filter_cons_of_neg (by rw [listed_set_self hs]; simp)]; rfl
      rw [h1, h2]
      simp
    · have := ih (by omega)
      have e : [n].filter (fun j => !(listed.setIfInBounds i true).getD j false) = [n].filter (fun j => !listed.getD j false) := by
        refine List.filter_congr fun j hj => ?_
        have : j = n := by simpa using hj
        rw [getD_set_ne false (by omega)]
      rw [e, this]
      omega

theorem open_zero (h : open_ n listed = 0) (i : Nat) (hi : i < n) : listed.getD i false = true := by
  unfold open_ at h
  rw [List.length_eq_zero_iff, List.filter_eq_nil_iff] at h
  have := h i (List.mem_range.2 hi)
  simpa using this

theorem exists_first {p : Nat → Prop} [DecidablePred p] : ∀ n, (∃ i, i < n ∧ p i) → ∃ i, i < n ∧ p i ∧ ∀ j, j < i → ¬ p j := by
  intro n
  induction n with
  | zero => rintro ⟨i, hi, _⟩; omega
  | succ n ih =>
    rintro ⟨i, hi, hp⟩
    by_cases h : ∃ i, i < n ∧ p i
    · obtain ⟨i, hi, hp, hl⟩ := ih h
      exact ⟨i, by omega, hp, hl⟩
    · have : i = n := by
        by_cases e : i = n
        · exact e
        · exact absurd ⟨i, by omega, hp⟩ h
      subst this
      exact ⟨i, by omega, hp, fun j hj hpj => h ⟨j, hj, hpj⟩⟩

theorem wpAny_of_chain {l : List Oper} (hl : ∀ i, Lasts (Vs i)) {Pan : List PanicEntry → World → Prop} (L : List (Value → World → Prop))
    (hheads : ∀ k, k < n → ∃ o d, HeadOk l.toArray n a.tmps.size k o d) (hnl : n ≤ l.length)
    (htw : ∀ listed, HeadInv .any l.toArray n listed → (∃ i, i < n ∧ listed.getD i true = false) → ∀ t, n ≤ t → t ∉ Region.ready .any l.toArray listed)
    (hseq : Region.seqB .any l.toArray (l.length - n) n (half n l.length) = true)
    (hL : ∀ j, L.getD j (fun _ _ => True) = Vs j) (hs : ∀ i o, i < n → l.toArray[i]? = some o → Step P l.toArray n a.tmps w Pan (L.take i) o (Vs i))
    (hP : ∀ c W, Pan c W → ∀ a', a'.defers = a.defers → Q (.panic c) a' W)
    (hfin : ∀ a' W, HI l.toArray n Vs a w (half n l.length) a' W → wpList P l.toArray Q (l.drop n) a' W) :
    ∀ (c : Nat) (listed : Array Bool) (a' : Act) (W : World), open_ n listed = c → HI l.toArray n Vs a w listed a' W → wpAny P .any l.toArray Q (c + (l.length - n)) listed a' W := by
  intro c
  induction c with
  | zero =>
    intro listed a' W hc h
    have he : listed = half n l.length := by
      refine Array.ext (by rw [h.inv.size]; simp [half]) fun i h1 h2 => ?_
      have h1' : i < l.length := by have := h.inv.size; simp at this; omega
      by_cases hin : i < n
      · have := open_zero hc i hin
        simp only [Array.getD_eq_getD_getElem?, Array.getElem?_eq_getElem h1, Option.getD_some] at this
        simp [half, this, hin]
      · have := h.inv.tail i (by omega) (by simpa using h1')
        simp only [Array.getD_eq_getD_getElem?, Array.getElem?_eq_getElem h1, Option.getD_some] at this
        simp [half, this, hin]
    subst he
    have h1 := wpAny_of_seq (md := .any) (Q' := Q) (P := P) (ops := l.toArray) (l.drop n) n (half n l.length) a' W (fun j => by simp [List.getElem?_drop]) (by simpa using hseq) (hfin a' W h)
    simpa using h1
  | succ c ih =>
    intro listed a' W hc h
    rw [show c + 1 + (l.length - n) = (c + (l.length - n)) + 1 by omega]
    have hsz : listed.size = l.length := by simpa using h.inv.size
    have hex : ∃ i, i < n ∧ listed.getD i false = false := by
      apply Classical.byContradiction
      intro hno
      have : open_ n listed = 0 := by
        unfold open_
        rw [List.length_eq_zero_iff, List.filter_eq_nil_iff]
        intro i hi
        have hi' := List.mem_range.1 hi
        cases hx : listed.getD i false with
        | true => simp
        | false => exact absurd ⟨i, hi', hx⟩ hno
      omega
    have hun : ∃ i, i < n ∧ listed.getD i true = false := by
      obtain ⟨i, hi, hx⟩ := hex
      exact ⟨i, hi, getD_in (by omega) hx⟩
    have hready : Region.ready .any l.toArray listed ≠ [] := by
      obtain ⟨i, hi, hx, hleast⟩ := exists_first n hex
      obtain ⟨o, d, hd⟩ := hheads i hi
      have : i ∈ Region.ready .any l.toArray listed := by
        refine mem_ready.2 ⟨getD_in (by omega) hx, o, hd.op, fun e he hb => ?_⟩
        have := hleast e.on (hd.early e he hb)
        simpa using this
      intro h0
      rw [h0] at this
      cases this
    refine ⟨fun h0 => absurd h0 hready, fun i hi => ?_⟩
    have hin : i < n := by
      rcases Nat.lt_or_ge i n with h' | h'
      · exact h'
      · exact absurd hi (htw listed h.inv hun i h')
    obtain ⟨o, d, hd⟩ := hheads i hin
    have hLi : ∀ j, j < i → (L.take i).getD j (fun _ _ => True) = Vs j := fun j hj => by
      rw [← hL j]
      simp [hj]
    refine wpOp_mono (fun a'' W'' h' => ih _ a'' W'' ?_ h') (h.step hl hd hin hi hLi (hs i o hin hd.op) hP)
    have h1 := open_set (n := n) hin (by omega : i < listed.size) (getD_both (mem_ready.1 hi).1)
    omega

theorem chain_vs {l : List Oper} {Pan : List PanicEntry → World → Prop} {fin : List (Value → World → Prop) → Prop} {tm : Array Value} : ∀ (r : List Oper) (i : Nat) (Ls : List (Value → World → Prop)), Ls.length = i → (∀ V ∈ Ls, Lasts V) → (∀ j o, j < i → l.toArray[j]? = some o → Step P l.toArray n tm w Pan (Ls.take j) o (Ls.getD j fun _ _ => True)) →
    (∀ j, j < r.length → r[j]? = l.toArray[i + j]?) → Chain P l.toArray n tm w Pan r Ls fin →
    ∃ L : List (Value → World → Prop), L.length = i + r.length ∧ (∀ V ∈ L, Lasts V) ∧ (∀ j o, j < i + r.length → l.toArray[j]? = some o → Step P l.toArray n tm w Pan (L.take j) o (L.getD j fun _ _ => True)) ∧ fin L
  | [], i, Ls, h1, h2, h3, _, h => ⟨Ls, by simpa using h1, h2, by simpa using h3, h⟩
  | o :: r, i, Ls, h1, h2, h3, h4, h => by
    obtain ⟨V, hV, hst, hrest⟩ := h
    have h0 : l.toArray[i]? = some o := by simpa using (h4 0 (by simp)).symm
    have := chain_vs (l := l) r (i + 1) (Ls ++ [V]) (by simp [h1]) (fun X hX => by
      rcases List.mem_append.1 hX with hX | hX
      · exact h2 X hX
      · have : X = V := by simpa using hX
        subst this; exact hV) (fun j o' hj ho' => by
        by_cases hji : j = i
        · subst hji
          have : o' = o := Option.some.inj (ho'.symm.trans h0)
          subst this
          have e1 : (Ls ++ [V]).take j = Ls := by rw [← h1]; simp
          have e2 : (Ls ++ [V]).getD j (fun _ _ => True) = V := by rw [← h1]; simp
          rw [e1, e2]; exact hst
        · have hj' : j < i := by omega
          have := h3 j o' hj' ho'
          have e1 : (Ls ++ [V]).take j = Ls.take j := by rw [List.take_append_of_le_length (by omega)]
          have e2 : (Ls ++ [V]).getD j (fun _ _ => True) = Ls.getD j (fun _ _ => True) := by
            simp [List.getElem?_append_left (show j < Ls.length by omega)]
          rw [e1, e2]; exact this) (fun j hj => by
        have := h4 (j + 1) (by simp; omega)
        simpa [Nat.add_assoc, Nat.add_comm 1 j] using this) hrest
    obtain ⟨L, l1, l2, l3, l4⟩ := this
    exact ⟨L, by simp; omega, l2, fun j o' hj => l3 j o' (by simp at hj; omega), l4⟩

/-- A region whose order is open, its first n operations in the text's order; then the others, one after the other. -/
theorem region_chain {id : Nat} {l : List Oper} (n : Nat) (hm : P.follows .mixedOrders = true) (hok : regionOk l.toArray n a.tmps.size = true)
    (h : Chain P l.toArray n a.tmps w.drew (fun c W => ∀ a', a'.defers = a.defers → Q (.panic c) a' W) (l.take n) [] fun L =>
      ∀ (vs : Nat → Value) (W : World), Gr w W → (∀ i, i < n → (L.getD i fun _ _ => True) (vs i) W) → wpList P l.toArray Q (l.drop n) (lay l.toArray vs n a) W) :
    (Code.region id l.toArray true).wp P Q a w := by
  simp only [regionOk, Bool.and_eq_true, Bool.or_eq_true, decide_eq_true_eq] at hok
  obtain ⟨⟨⟨hn, hh⟩, ht⟩, hseq⟩ := hok
  have hnl : n ≤ l.length := by simpa using hn
  have htl : (l.take n).length = n := by simp; omega
  obtain ⟨L, l1, l2, l3, l4⟩ := chain_vs (l := l) (l.take n) 0 [] rfl (by simp) (fun j o hj => by omega) (fun j hj => by
    have hj' : j < n := by rw [htl] at hj; exact hj
    simp [hj']) h
  rw [htl] at l1 l3
  have hheads := heads_of hh
  have hlast : ∀ i, Lasts (L.getD i fun _ _ => True) := fun i => by
    rcases Nat.lt_or_ge i L.length with h' | h'
    · exact l2 _ (by simp [List.getElem?_eq_getElem h'])
    · rw [show L.getD i (fun _ _ => True) = fun _ _ => True by simp [List.getElem?_eq_none h']]
      exact fun _ _ _ _ _ => trivial
  have inv0 : HeadInv .any l.toArray n (Array.replicate l.toArray.size false) :=
    ⟨by simp, fun j oj _ hl => (by rw [getD_replicate_false] at hl; cases hl), fun t _ ht => getD_in (by simpa using ht) (getD_replicate_false _ _)⟩
  have h0 : HI l.toArray n (fun i => L.getD i fun _ _ => True) a w.drew (Array.replicate l.toArray.size false) a w.drew :=
    ⟨inv0, Gr.same _, rfl, rfl, fun i d _ _ hl => (by rw [getD_replicate_false] at hl; cases hl), fun _ _ => rfl⟩
  have hopen : open_ n (Array.replicate l.toArray.size false) = n := by
    unfold open_
    rw [List.filter_eq_self.2 fun i _ => by rw [getD_replicate_false]; rfl]
    simp
  refine wp_region_any hm ?_
  have := wpAny_of_chain (P := P) (Q := Q) (n := n) (Vs := fun i => L.getD i fun _ _ => True) (a := a) (w := w.drew) (l := l) hlast (Pan := fun c W => ∀ a', a'.defers = a.defers → Q (.panic c) a' W) L hheads hnl
    (fun listed inv hun t htn hr => by
      rcases ht with ht | ht
      · obtain ⟨_, ot, hot, _⟩ := mem_ready.1 hr
        have := (Array.getElem?_eq_some_iff.1 hot).1
        omega
      · obtain ⟨i, hi, hx⟩ := hun
        by_cases hlt : n < l.toArray.size
        · exact tail_waits ht.1 ht.2 hlt inv _ i rfl hi hx t htn hr
        · obtain ⟨_, ot, hot, _⟩ := mem_ready.1 hr
          have := (Array.getElem?_eq_some_iff.1 hot).1
          omega)
    (by simpa using hseq) (fun _ => rfl) (fun i o hi ho => l3 i o (by omega) ho) (fun c W hp a' hd => hp a' hd)
    (fun a' W hI => by
      have e : a' = lay l.toArray (fun i => a'.tmps.getD (((l.toArray[i]?).bind (·.dst)).getD 0) undef) n a := by
        have ed : a'.defers = (lay l.toArray (fun i => a'.tmps.getD (((l.toArray[i]?).bind (·.dst)).getD 0) undef) n a).defers := by rw [lay_defers]; exact hI.defers
        have et : a'.tmps = (lay l.toArray (fun i => a'.tmps.getD (((l.toArray[i]?).bind (·.dst)).getD 0) undef) n a).tmps := by
          refine Array.ext (by rw [lay_size]; exact hI.size) fun t h1 h2 => ?_
          have h3 : t < a.tmps.size := by rw [← hI.size]; exact h1
          refine Option.some.inj ?_
          rw [← Array.getElem?_eq_getElem h1, ← Array.getElem?_eq_getElem h2]
          cases hf : fills l.toArray n t with
          | none =>
            rw [lay_other _ n a fun i hi => fills_none hf i hi]
            have := hI.rest t fun i hi hd => absurd hd (fills_none hf i hi)
            simp only [Array.getD_eq_getD_getElem?, Array.getElem?_eq_getElem h1, Array.getElem?_eq_getElem h3, Option.getD_some] at this
            rw [Array.getElem?_eq_getElem h1, Array.getElem?_eq_getElem h3, this]
          | some k =>
            obtain ⟨hk, hd⟩ := fills_some hf
            obtain ⟨o, d, hdk⟩ := hheads k hk
            have hdt : d = t := by rw [hdk.op] at hd; exact Option.some.inj (hdk.dst.symm.trans hd)
            subst hdt
            rw [lay_at _ n a hk hd h3 hdk.only, hd]
            simp only [Option.getD_some, Array.getD_eq_getD_getElem?, Array.getElem?_eq_getElem h1]
        cases a'; cases hlay : lay l.toArray _ n a
        rw [hlay] at ed et
        simp only at ed et
        rw [ed, et]
      rw [e]
      refine l4 _ W ((Gr.drew w).tr hI.grow) fun i hi => ?_
      obtain ⟨o, d, hd⟩ := hheads i hi
      have hdd : (l.toArray[i]?).bind (·.dst) = some d := by rw [hd.op]; exact hd.dst
      have := hI.done i d hi hdd (by simp [half, hi, show i < l.length by omega])
      simp only [hdd, Option.getD_some]
      exact this)
    n (Array.replicate l.toArray.size false) a w.drew hopen h0
  rw [show n + (l.length - n) = l.toArray.size by simp; omega] at this
  exact this

variable {tm : Array Value} {Pan : List PanicEntry → World → Prop} {o : Oper} {r : List Oper} {Ls : List (Value → World → Prop)} {fin : List (Value → World → Prop) → Prop} {k : Nat}

/-- Where the fact on a temporary stands in the list of facts, the newest first. -/
def place (ops : Array Oper) (n k : Nat) (t : Tmp) : Tmp × Option Nat := (t, (fills ops n t).map fun j => if j < k then k - 1 - j else k)
def FactsD (Ls : List (Value → World → Prop)) (tm : Array Value) (ρ : Operand → Value) (W : World) : List (Tmp × Option Nat) → Prop
  | [] => True
  | (t, some d) :: r => (Ls.getD d (fun _ _ => True)) (ρ (.tmp t)) W ∧ FactsD Ls tm ρ W r
  | (t, none) :: r => ρ (.tmp t) = tm.getD t undef ∧ FactsD Ls tm ρ W r

theorem FactsD.of {ρ : Operand → Value} {W : World} (hk : Ls.length = k) : ∀ {l : List Tmp}, Facts ops n Ls.reverse tm ρ W l → FactsD Ls tm ρ W (l.map (place ops n k))
  | [], _ => trivial
  | t :: l, h => by
    have h2 := FactsD.of hk h.2
    have h1 := h.1
    unfold Fact at h1
    simp only [List.map_cons, place]
    cases hf : fills ops n t with
    | none => rw [hf] at h1; exact ⟨h1, h2⟩
    | some j =>
      rw [hf] at h1
      refine ⟨?_, h2⟩
      by_cases hj : j < k
      · simp only [hj, if_true]
        have e : Ls.reverse.getD j (fun _ _ => True) = Ls.getD (k - 1 - j) (fun _ _ => True) := by
          simp only [List.getD_eq_getElem?_getD]
          rw [List.getElem?_reverse (by omega), hk]
        rw [← e]; exact h1
      · simp only [hj, if_false]
        rw [show Ls.getD k (fun _ _ => True) = fun _ _ => True by simp [List.getElem?_eq_none (show Ls.length ≤ k by omega)]]
        trivial

def Step2 (P : Program) (ops : Array Oper) (n : Nat) (tm : Array Value) (w : World) (Pan : List PanicEntry → World → Prop) (Ls : List (Value → World → Prop)) (k : Nat) (o : Oper) (V : Value → World → Prop) : Prop :=
  ∃ D, (looks ops o).map (place ops n k) = D ∧ ∀ (ρ : Operand → Value) (W : World), Plain ρ → Gr w W → FactsD Ls tm ρ W D →
    (Lets ops ρ o → Gives P W V Pan ((execOp ρ o).run P W)) ∧ (¬ Lets ops ρ o → V undef W)

/-- The first n operations in the text's order: of each a lasting fact; the facts in a list, the newest first. -/
def Chain2 (P : Program) (ops : Array Oper) (n : Nat) (tm : Array Value) (w : World) (Pan : List PanicEntry → World → Prop) : List Oper → Nat → List (Value → World → Prop) → (List (Value → World → Prop) → Prop) → Prop
  | [], _, Ls, fin => fin Ls
  | o :: r, k, Ls, fin => ∃ V, Lasts V ∧ Step2 P ops n tm w Pan Ls k o V ∧ Chain2 P ops n tm w Pan r (k + 1) (V :: Ls) fin

theorem Chain2.chain : ∀ {r : List Oper} {k : Nat} {Ls : List (Value → World → Prop)}, Ls.length = k → Chain2 P ops n tm w Pan r k Ls fin → Chain P ops n tm w Pan r Ls.reverse fun L => fin L.reverse
  | [], _, _, _, h => by
    show fin (List.reverse _)
    rw [List.reverse_reverse]; exact h
  | o :: r, k, Ls, hk, h => by
    obtain ⟨V, hV, ⟨D, hD, hs⟩, hr⟩ := h
    refine ⟨V, hV, fun ρ W hp hG hF => hs ρ W hp hG (by rw [← hD]; exact FactsD.of hk hF), ?_⟩
    have := Chain2.chain (by simp [hk]) hr
    rw [List.reverse_cons] at this
    exact this

/-- All facts on the values. -/
def Holds : List (Value → World → Prop) → Nat → (Nat → Value) → World → Prop
  | [], _, _, _ => True
  | V :: Ls, k, vs, W => V (vs (k - 1)) W ∧ Holds Ls (k - 1) vs W
theorem Holds.of {vs : Nat → Value} {W : World} : ∀ {Ls : List (Value → World → Prop)}, (∀ i, i < Ls.length → (Ls.reverse.getD i fun _ _ => True) (vs i) W) → Holds Ls Ls.length vs W
  | [], _ => trivial
  | V :: Ls, h => by
    refine ⟨?_, ?_⟩
    · have := h Ls.length (by simp)
      simpa using this
    · have := Holds.of (Ls := Ls) (vs := vs) (W := W) fun i hi => by
        have := h i (by simp; omega)
        rw [List.reverse_cons] at this
        simp only [List.getD_eq_getElem?_getD] at this ⊢
        rwa [List.getElem?_append_left (by simpa using hi)] at this
      simpa using this

theorem Chain2.len : ∀ {r : List Oper} {k : Nat} {Ls : List (Value → World → Prop)}, Ls.length = k → Chain2 P ops n tm w Pan r k Ls fin → Chain2 P ops n tm w Pan r k Ls fun L => L.length = k + r.length ∧ fin L
  | [], _, _, hk, h => ⟨by simpa using hk, h⟩
  | o :: r, k, Ls, hk, h => by
    obtain ⟨V, hV, hs, hr⟩ := h
    refine ⟨V, hV, hs, ?_⟩
    have := Chain2.len (by simp [hk]) hr
    rw [show k + 1 + r.length = k + (o :: r).length by simp; omega] at this
    exact this

/-- A region whose order is open: see region_chain. -/
theorem region2 {id : Nat} {l : List Oper} (n : Nat) (hm : P.follows .mixedOrders = true) (hok : regionOk l.toArray n a.tmps.size = true)
    (h : Chain2 P l.toArray n a.tmps w.drew (fun c W => ∀ a', a'.defers = a.defers → Q (.panic c) a' W) (l.take n) 0 [] fun L =>
      ∀ (vs : Nat → Value) (W : World), Gr w W → Holds L n vs W → wpList P l.toArray Q (l.drop n) (lay l.toArray vs n a) W) :
    (Code.region id l.toArray true).wp P Q a w := by
  have hn : n ≤ l.length := by
    simp only [regionOk, Bool.and_eq_true, decide_eq_true_eq] at hok
    simpa using hok.1.1.1
  refine region_chain n hm hok ?_
  have h1 := Chain2.chain (k := 0) (Ls := []) rfl (Chain2.len (k := 0) (Ls := []) rfl h)
  have hmono : ∀ {f g : List (Value → World → Prop) → Prop}, (∀ L, f L → g L) → ∀ (r : List Oper) (Ls : List (Value → World → Prop)), Chain P l.toArray n a.tmps w.drew (fun c W => ∀ a', a'.defers = a.defers → Q (.panic c) a' W) r Ls f → Chain P l.toArray n a.tmps w.drew (fun c W => ∀ a', a'.defers = a.defers → Q (.panic c) a' W) r Ls g := by
    intro f g hfg r
    induction r with
    | nil => intro Ls hc; exact hfg _ hc
    | cons o r ih => intro Ls ⟨V, hV, hs, hr⟩; exact ⟨V, hV, hs, ih _ hr⟩
  refine hmono (fun L hL => ?_) _ _ h1
  obtain ⟨hlen, hf⟩ := hL
  intro vs W hg hv
  have hl : L.reverse.length = n := by rw [hlen]; simp; omega
  refine hf vs W hg ?_
  have := Holds.of (Ls := L.reverse) (vs := vs) (W := W) fun i hi => by
    rw [List.reverse_reverse]; exact hv i (by omega)
  rwa [hl] at this

variable {D : List (Tmp × Option Nat)} {V : Value → World → Prop}
/-- An operation of whose value a lasting fact is known. -/
theorem chain_any (hg : o.guard = none) (hD : (looks ops o).map (place ops n k) = D) (hV : Lasts V) (h : ∀ (ρ : Operand → Value) (W : World), Plain ρ → Gr w W → FactsD Ls tm ρ W D → ∀ K : Result Next → Prop, (∀ r, Gives P W V Pan r → K r) → K ((execOp ρ o).run P W))
    (hr : Chain2 P ops n tm w Pan r (k + 1) (V :: Ls) fin) : Chain2 P ops n tm w Pan (o :: r) k Ls fin :=
  ⟨V, hV, ⟨D, hD, fun ρ W hp hG hF => ⟨fun _ => h ρ W hp hG hF _ fun _ h => h, fun hno => absurd (show Lets ops ρ o by simp [Lets, hg]) hno⟩⟩, hr⟩
/-- An operation whose value is known. -/
theorem chain_eq {c : Value} (hg : o.guard = none) (hD : (looks ops o).map (place ops n k) = D) (h : ∀ (ρ : Operand → Value) (W : World), Plain ρ → Gr w W → FactsD Ls tm ρ W D → ∀ K : Result Next → Prop, (∀ r, Gives P W (fun v _ => v = c) Pan r → K r) → K ((execOp ρ o).run P W))
    (hr : Chain2 P ops n tm w Pan r (k + 1) ((fun v _ => v = c) :: Ls) fin) : Chain2 P ops n tm w Pan (o :: r) k Ls fin := chain_any hg hD (Lasts.eq c) h hr
/-- An operation that its guard passes over. -/
theorem chain_skip (hD : (looks ops o).map (place ops n k) = D) (h : ∀ (ρ : Operand → Value) (W : World), FactsD Ls tm ρ W D → ¬ Lets ops ρ o)
    (hr : Chain2 P ops n tm w Pan r (k + 1) ((fun v _ => v = undef) :: Ls) fin) : Chain2 P ops n tm w Pan (o :: r) k Ls fin :=
  ⟨fun v _ => v = undef, Lasts.eq undef, ⟨D, hD, fun ρ W _ _ hF => ⟨fun hl => absurd hl (h ρ W hF), fun _ => rfl⟩⟩, hr⟩
/-- An operation that its guard lets be carried out. -/
theorem chain_let (hD : (looks ops o).map (place ops n k) = D) (hl : ∀ (ρ : Operand → Value) (W : World), FactsD Ls tm ρ W D → Lets ops ρ o) (hV : Lasts V) (h : ∀ (ρ : Operand → Value) (W : World), Plain ρ → Gr w W → FactsD Ls tm ρ W D → ∀ K : Result Next → Prop, (∀ r, Gives P W V Pan r → K r) → K ((execOp ρ o).run P W))
    (hr : Chain2 P ops n tm w Pan r (k + 1) (V :: Ls) fin) : Chain2 P ops n tm w Pan (o :: r) k Ls fin :=
  ⟨V, hV, ⟨D, hD, fun ρ W hp hG hF => ⟨fun _ => h ρ W hp hG hF _ fun _ h => h, fun hno => absurd (hl ρ W hF) hno⟩⟩, hr⟩
theorem chain_leq {c : Value} (hD : (looks ops o).map (place ops n k) = D) (hl : ∀ (ρ : Operand → Value) (W : World), FactsD Ls tm ρ W D → Lets ops ρ o) (h : ∀ (ρ : Operand → Value) (W : World), Plain ρ → Gr w W → FactsD Ls tm ρ W D → ∀ K : Result Next → Prop, (∀ r, Gives P W (fun v _ => v = c) Pan r → K r) → K ((execOp ρ o).run P W))
    (hr : Chain2 P ops n tm w Pan r (k + 1) ((fun v _ => v = c) :: Ls) fin) : Chain2 P ops n tm w Pan (o :: r) k Ls fin := chain_let hD hl (Lasts.eq c) h hr
theorem chain_done (h : fin Ls) : Chain2 P ops n tm w Pan [] k Ls fin := h
/-- A call whose value is known. -/
theorem gives_call {c : Value} {f : FuncId} {args : Array Value} {W : World} (h : Calls P f args W fun e W' => e = .returned c ∧ Below W.heap.size W W') : Gives P W (fun v _ => v = c) Pan (.ok (.enter f args) W) :=
  ⟨Gr.same W, h.mono fun e W' he => by
    obtain ⟨rfl, hb⟩ := he
    exact ⟨rfl, hb⟩⟩
theorem gives_rel {f : FuncId} {args : Array Value} {W : World} (h : Calls P f args W fun e W' => (∃ v, e = .returned v ∧ V v W') ∧ Below W.heap.size W W') : Gives P W V Pan (.ok (.enter f args) W) :=
  ⟨Gr.same W, h.mono fun e W' he => by
    obtain ⟨⟨v, rfl, hv⟩, hb⟩ := he
    exact ⟨hv, hb⟩⟩
theorem gives_panic {ch : List PanicEntry} {f : FuncId} {args : Array Value} {W : World} (h : Calls P f args W fun e W' => e = .panicked ch ∧ Below W.heap.size W W') (hp : ∀ W', Gr W W' → Pan ch W') : Gives P W V Pan (.ok (.enter f args) W) :=
  ⟨Gr.same W, h.mono fun e W' he => by
    obtain ⟨rfl, hb⟩ := he
    exact hp W' hb⟩
theorem gives_val {c : Value} {W : World} : Gives P W (fun v _ => v = c) Pan (.ok (.value c) W) := ⟨rfl, Gr.same W⟩
end
/-- A block of plain cells, none of which is frozen. -/
def Box (w : World) (b : Nat) (vs : List Value) (T : TypeId) : Prop := w.heap[b]? = some (.cells vs.toArray T (0, 0))
theorem Box.lt {w : World} {b : Nat} {vs : List Value} {T : TypeId} (h : Box w b vs T) : b < w.heap.size := (Array.getElem?_eq_some_iff.1 h).1
theorem Box.cell {w : World} {b : Nat} {vs : List Value} {T : TypeId} (h : Box w b vs T) {i : Nat} {x : Value} (hx : vs[i]? = some x) : w.cell? ⟨b, i, none⟩ = some x := by
  unfold Box at h
  simp [World.cell?, h, hx]
theorem Box.free {w : World} {b : Nat} {vs : List Value} {T : TypeId} (h : Box w b vs T) (i : Nat) : w.frozen? ⟨b, i, none⟩ = false := by
  unfold Box at h
  simp [World.frozen?, h]
theorem Box.grow {w w' : World} {b : Nat} {vs : List Value} {T : TypeId} (h : Box w b vs T) (hg : Gr w w') : Box w' b vs T := by
  have h1 := hg.block b h.lt
  unfold Box at *
  rw [h1]
  exact h
theorem Box.fresh (w : World) (vs : List Value) (T : TypeId) : Box (w.alloc (.cells vs.toArray T)) w.heap.size vs T := by
  unfold Box
  show (w.heap.push (.cells vs.toArray T))[w.heap.size]? = _
  simp
theorem Box.other {w : World} {b b' : Nat} {vs : List Value} {T : TypeId} (h : Box w b vs T) (hne : b ≠ b') (i : Nat) (x : Value) : Box (w.setCell ⟨b', i, none⟩ x) b vs T := by
  unfold Box at *
  rw [Below.heap_setCell _ _ _ _ (by simpa using hne)]
  exact h
theorem Box.put {w : World} {b : Nat} {vs : List Value} {T : TypeId} (h : Box w b vs T) (i : Nat) (x : Value) : Box (w.setCell ⟨b, i, none⟩ x) b (vs.set i x) T := by
  unfold Box at *
  simp only [World.setCell, Array.getElem?_modify, if_true]
  rw [h]
  simp
theorem Box.two {w : World} {b : Nat} {x y : Value} {T : TypeId} (h : Box w b [x, y] T) : w.cell? ⟨b, 0, none⟩ = some x ∧ w.cell? ⟨b, 1, none⟩ = some y ∧ w.frozen? ⟨b, 0, none⟩ = false ∧ w.frozen? ⟨b, 1, none⟩ = false ∧ b < w.heap.size :=
  ⟨h.cell rfl, h.cell rfl, h.free 0, h.free 1, h.lt⟩
theorem bcell {W w1 : World} (hb : Below W.heap.size W w1) : (∀ b o, b < W.heap.size → w1.cell? ⟨b, o, none⟩ = W.cell? ⟨b, o, none⟩) ∧ (∀ b o, b < W.heap.size → w1.frozen? ⟨b, o, none⟩ = W.frozen? ⟨b, o, none⟩) ∧ (∀ b, b < W.heap.size → b < w1.heap.size) :=
  ⟨fun b o h => hb.cell (p := ⟨b, o, none⟩) h, fun b o h => hb.frozen (p := ⟨b, o, none⟩) h, fun _ h => Nat.lt_of_lt_of_le h hb.size⟩
theorem cal (W : World) (o : Obj) (b off : Nat) (h : b < W.heap.size) : (W.alloc o).cell? ⟨b, off, none⟩ = W.cell? ⟨b, off, none⟩ :=
  World.cell?_of_block (w := W) (Below.heap_alloc W o b h)
theorem fal (W : World) (o : Obj) (b off : Nat) (h : b < W.heap.size) : (W.alloc o).frozen? ⟨b, off, none⟩ = W.frozen? ⟨b, off, none⟩ :=
  World.frozen?_of_block (w := W) (Below.heap_alloc W o b h)
theorem bgr {B : Nat} {w a b : World} (h : Below B w a) (hB : B ≤ a.heap.size) (hg : Gr a b) : Below B w b := h.trans (Below.mono hg hB)
/-- A pointer to a block of these cells, from a number on. -/
def FreshAt (N : Nat) (vs : List Value) (T : TypeId) (v : Value) (w : World) : Prop := ∃ b, v = .pointer (some ⟨b, 0, none⟩) ∧ N ≤ b ∧ Box w b vs T
theorem FreshAt.lasts (N : Nat) (vs : List Value) (T : TypeId) : Lasts (FreshAt N vs T) := fun _ _ _ ⟨b, h1, h2, h3⟩ hg => ⟨b, h1, h2, h3.grow hg⟩
theorem FreshAt.new {N : Nat} {W : World} (h : N ≤ W.heap.size) (vs : List Value) (T : TypeId) : FreshAt N vs T (.pointer (some ⟨W.heap.size, 0, none⟩)) (W.alloc (.cells vs.toArray T)) := ⟨_, rfl, h, Box.fresh W vs T⟩
theorem lta {W : World} {b : Nat} (h : b < W.heap.size) : b < W.heap.size + 1 := Nat.lt_succ_of_lt h
end Go.Proofs.Ytjlaoiimbhlafaa
namespace Go.Proofs.Ytjlaoiimbhlafaa
open Go.RowKit

/-- A fact on a value that an operation gave while the heap grew from one size to another one. -/
abbrev VB := Nat × Nat → Value → World → Prop
def LastsB (V : VB) : Prop := ∀ p, Lasts (V p)
def exB (V : VB) : Value → World → Prop := fun v W => ∃ p, V p v W
theorem LastsB.ex {V : VB} (h : LastsB V) : Lasts (exB V) := fun v W W' ⟨p, hp⟩ hg => ⟨p, h p v W W' hp hg⟩
def GivesB (P : Program) (W : World) (V : VB) (Pan : List PanicEntry → World → Prop) : Result Next → Prop
  | .ok (.value v) w' => V (W.heap.size, w'.heap.size) v w' ∧ Gr W w'
  | .ok .skip w' => V (W.heap.size, w'.heap.size) undef w' ∧ Gr W w'
  | .ok (.enter f args) w' => Gr W w' ∧ Calls P f args w' fun e w'' => match e with
      | .returned v => V (W.heap.size, w''.heap.size) v w'' ∧ Gr w' w''
      | .panicked c => Pan c w''
      | .outgrown => False
  | .halt (.panic v) w' => Pan [{ v, recovered := false }] w'
  | _ => False
theorem GivesB.of {P : Program} {W : World} {V : Value → World → Prop} {Pan : List PanicEntry → World → Prop} {r : Result Next} (h : Gives P W V Pan r) : GivesB P W (fun _ => V) Pan r := by
  cases r with
  | ok nx w' => cases nx <;> exact h
  | halt x w' => cases x <;> exact h

section
variable {P : Program} {ops : Array Oper} {Q : Exit → Act → World → Prop} {n : Nat} {Vs : Nat → VB} {a a' : Act} {w W W' : World} {listed : Array Bool}

def StepB (P : Program) (ops : Array Oper) (n : Nat) (tm : Array Value) (w : World) (Pan : List PanicEntry → World → Prop) (Ls : List (Value → World → Prop)) (o : Oper) (V : VB) : Prop :=
  ∀ (ρ : Operand → Value) (W : World), Plain ρ → Gr w W → Facts ops n Ls tm ρ W (looks ops o) →
    (Lets ops ρ o → GivesB P W V Pan ((execOp ρ o).run P W)) ∧ (¬ Lets ops ρ o → V (W.heap.size, W.heap.size) undef W)

structure HB (ops : Array Oper) (n : Nat) (Vs : Nat → VB) (bs : Nat → Nat × Nat) (a : Act) (w : World) (listed : Array Bool) (a' : Act) (W : World) : Prop where
  hi : HI ops n (fun i => exB (Vs i)) a w listed a' W
  done : ∀ i d, i < n → (ops[i]?).bind (·.dst) = some d → listed.getD i false = true → Vs i (bs i) (a'.tmps.getD d undef) W
  disj : ∀ i j, i < n → j < n → i ≠ j → listed.getD i false = true → listed.getD j false = true → (bs i).2 ≤ (bs j).1 ∨ (bs j).2 ≤ (bs i).1
  top : ∀ i, i < n → listed.getD i false = true → (bs i).2 ≤ W.heap.size

theorem HB.set {bs : Nat → Nat × Nat} (h : HB ops n Vs bs a w listed a' W) (hl : ∀ i, LastsB (Vs i)) {i d : Nat} {o : Oper} (hd : HeadOk ops n a.tmps.size i o d) (hin : i < n) (hr : i ∈ Region.ready .any ops listed) {v : Value} (hv : Vs i (W.heap.size, W'.heap.size) v W') (hg : Gr W W') :
    ∃ bs', HB ops n Vs bs' a w (listed.setIfInBounds i true) (a'.put (some d) v) W' := by
  have hdd : (ops[i]?).bind (·.dst) = some d := by rw [hd.op]; exact hd.dst
  have hs : d < a'.tmps.size := by rw [h.hi.size]; exact hd.lt
  refine ⟨fun j => if j = i then (W.heap.size, W'.heap.size) else bs j, h.hi.set (fun i => (hl i).ex) hd hin hr ⟨_, hv⟩ hg, fun j e hj hje hl' => ?_, fun j k hj hk hjk h1 h2 => ?_, fun j hj h1 => ?_⟩
  · by_cases hij : j = i
    · subst hij
      have : d = e := Option.some.inj (hdd.symm.trans hje)
      subst this
      simpa [Act.put, hs] using hv
    · rw [getD_set_ne false (fun e => hij e.symm)] at hl'
      have hne : d ≠ e := fun e' => hij (hd.only j hj (by rw [hje, e']))
      have := hl j _ _ _ _ (h.done j e hj hje hl') hg
      simpa [Act.put, Array.getElem?_setIfInBounds_ne hne, hij] using this
  · by_cases hji : j = i
    · subst hji
      have hk' : k ≠ j := fun e => hjk e.symm
      rw [getD_set_ne false hjk] at h2
      simp only [if_true, hk', if_false]
      exact .inr (h.top k hk h2)
    · rw [getD_set_ne false (fun e => hji e.symm)] at h1
      by_cases hki : k = i
      · subst hki
        simp only [if_true, hji, if_false]
        exact .inl (h.top j hj h1)
      · rw [getD_set_ne false (fun e => hki e.symm)] at h2
        simp only [hji, hki, if_false]
        exact h.disj j k hj hk hjk h1 h2
  · by_cases hji : j = i
    · subst hji
      simp
    · rw [getD_set_ne false (fun e => hji e.symm)] at h1
      simp only [hji, if_false]
      exact Nat.le_trans (h.top j hj h1) hg.size

theorem HB.step {bs : Nat → Nat × Nat} (h : HB ops n Vs bs a w listed a' W) (hl : ∀ i, LastsB (Vs i)) {L : List (Value → World → Prop)} {Pan : List PanicEntry → World → Prop} {i d : Nat} {o : Oper} (hd : HeadOk ops n a.tmps.size i o d) (hin : i < n) (hr : i ∈ Region.ready .any ops listed)
    (hL : ∀ j, j < i → L.getD j (fun _ _ => True) = exB (Vs j)) (hs : StepB P ops n a.tmps w Pan L o (Vs i))
    (hP : ∀ c W, Pan c W → ∀ a', a'.defers = a.defers → Q (.panic c) a' W) :
    wpOp P ops Q i (fun a' W => ∃ bs', HB ops n Vs bs' a w (listed.setIfInBounds i true) a' W) a' W := by
  obtain ⟨_, oi, hoi, hall⟩ := mem_ready.1 hr
  have : oi = o := Option.some.inj (hoi.symm.trans hd.op)
  subst this
  have hf : Facts ops n L a.tmps a'.eval W (looks ops oi) := Facts.mk fun t ht => by
    unfold Fact
    cases hfl : fills ops n t with
    | none => exact h.hi.rest t fun j hj hjt => absurd hjt (fills_none hfl j hj)
    | some j =>
      obtain ⟨hjn, hjd⟩ := fills_some hfl
      obtain ⟨hji, hw⟩ := hd.sees t ht j hfl
      obtain ⟨oj, hoj, e, he, hb, hon⟩ := Region.waitsFor_spec hw
      have : oj = oi := Option.some.inj (hoj.symm.trans hd.op)
      subst this
      have h1 := hall e he hb
      rw [hon] at h1
      have h2 := h.hi.done j t hjn hjd h1
      simp only [hL j hji]
      exact h2
  obtain ⟨s1, s2⟩ := hs a'.eval W (Plain.eval a') h.hi.grow hf
  unfold wpOp
  simp only [hd.op]
  by_cases hw : Region.wanted oi (yielded ops a'.tmps) = true
  · rw [if_pos hw]
    refine .inl ?_
    have h1 := s1 (lets_of_wanted.1 hw)
    unfold Oper.wp
    have key : ∀ v W', Vs i (W.heap.size, W'.heap.size) v W' → Gr W W' → ∃ bs', HB ops n Vs bs' a w (listed.setIfInBounds i true) (a'.put (some d) v) W' := fun v W' hv hg => h.set hl hd hin hr hv hg
    cases hrun : (execOp a'.eval oi).run P W with
    | ok nx w' =>
      rw [hrun] at h1
      cases nx <;> simp only [GivesB] at h1 <;> simp only [Oper.upon, hd.dst]
      case value v => exact key _ _ h1.1 h1.2
      case skip => exact key _ _ h1.1 h1.2
      case enter f args =>
        refine h1.2.mono fun e w'' he => ?_
        cases e with
        | returned v => exact key _ _ he.1 (h1.1.tr he.2)
        | panicked c => exact hP _ _ he _ h.hi.defers
        | outgrown => exact he.elim
    | halt x w' =>
      rw [hrun] at h1
      cases x <;> simp only [GivesB] at h1
      case panic v => exact hP _ _ h1 _ h.hi.defers
  · rw [if_neg hw, hd.dst]
    exact h.set hl hd hin hr (s2 fun hl' => hw (lets_of_wanted.2 hl')) (Gr.same W)

theorem wpAny_of_chainB {l : List Oper} (hl : ∀ i, LastsB (Vs i)) {Pan : List PanicEntry → World → Prop} (L : List (Value → World → Prop))
    (hheads : ∀ k, k < n → ∃ o d, HeadOk l.toArray n a.tmps.size k o d) (hnl : n ≤ l.length)
    (htw : ∀ listed, HeadInv .any l.toArray n listed → (∃ i, i < n ∧ listed.getD i true = false) → ∀ t, n ≤ t → t ∉ Region.ready .any l.toArray listed)
    (hseq : Region.seqB .any l.toArray (l.length - n) n (half n l.length) = true)
    (hL : ∀ j, j < n → L.getD j (fun _ _ => True) = exB (Vs j)) (hs : ∀ i o, i < n → l.toArray[i]? = some o → StepB P l.toArray n a.tmps w Pan (L.take i) o (Vs i))
    (hP : ∀ c W, Pan c W → ∀ a', a'.defers = a.defers → Q (.panic c) a' W)
    (hfin : ∀ bs a' W, HB l.toArray n Vs bs a w (half n l.length) a' W → wpList P l.toArray Q (l.drop n) a' W) :
    ∀ (c : Nat) (listed : Array Bool) (a' : Act) (W : World), open_ n listed = c → (∃ bs, HB l.toArray n Vs bs a w listed a' W) → wpAny P .any l.toArray Q (c + (l.length - n)) listed a' W := by
  intro c
  induction c with
  | zero =>
    intro listed a' W hc ⟨bs, h⟩
    have he : listed = half n l.length := by
      refine Array.ext (by rw [h.hi.inv.size]; simp [half]) fun i h1 h2 => ?_
      have h1' : i < l.length := by have := h.hi.inv.size; simp at this; omega
      by_cases hin : i < n
      · have := open_zero hc i hin
        simp only [Array.getD_eq_getD_getElem?, Array.getElem?_eq_getElem h1, Option.getD_some] at this
        simp [half, this, hin]
      · have := h.hi.inv.tail i (by omega) (by simpa using h1')
        simp only [Array.getD_eq_getD_getElem?, Array.getElem?_eq_getElem h1, Option.getD_some] at this
        simp [half, this, hin]
    subst he
    have h1 := wpAny_of_seq (md := .any) (Q' := Q) (P := P) (ops := l.toArray) (l.drop n) n (half n l.length) a' W (fun j => by simp [List.getElem?_drop]) (by simpa using hseq) (hfin bs a' W h)
    simpa using h1
  | succ c ih =>
    intro listed a' W hc ⟨bs, h⟩
    rw [show c + 1 + (l.length - n) = (c + (l.length - n)) + 1 by omega]
    have hsz : listed.size = l.length := by simpa using h.hi.inv.size
    have hex : ∃ i, i < n ∧ listed.getD i false = false := by
      apply Classical.byContradiction
      intro hno
      have : open_ n listed = 0 := by
        unfold open_
        rw [List.length_eq_zero_iff, List.filter_eq_nil_iff]
        intro i hi
        have hi' := List.mem_range.1 hi
        cases hx : listed.getD i false with
        | true => simp
        | false => exact absurd ⟨i, hi', hx⟩ hno
      omega
    have hun : ∃ i, i < n ∧ listed.getD i true = false := by
      obtain ⟨i, hi, hx⟩ := hex
      exact ⟨i, hi, getD_in (by omega) hx⟩
    have hready : Region.ready .any l.toArray listed ≠ [] := by
      obtain ⟨i, hi, hx, hleast⟩ := exists_first n hex
      obtain ⟨o, d, hd⟩ := hheads i hi
      have : i ∈ Region.ready .any l.toArray listed := by
        refine mem_ready.2 ⟨getD_in (by omega) hx, o, hd.op, fun e he hb => ?_⟩
        have := hleast e.on (hd.early e he hb)
        simpa using this
      intro h0
      rw [h0] at this
      cases this
    refine ⟨fun h0 => absurd h0 hready, fun i hi => ?_⟩
    have hin : i < n := by
      rcases Nat.lt_or_ge i n with h' | h'
      · exact h'
      · exact absurd hi (htw listed h.hi.inv hun i h')
    obtain ⟨o, d, hd⟩ := hheads i hin
    have hLi : ∀ j, j < i → (L.take i).getD j (fun _ _ => True) = exB (Vs j) := fun j hj => by
      rw [← hL j (by omega)]
      simp [hj]
    refine wpOp_mono (fun a'' W'' h' => ih _ a'' W'' ?_ h') (h.step hl hd hin hi hLi (hs i o hin hd.op) hP)
    have h1 := open_set (n := n) hin (by omega : i < listed.size) (getD_both (mem_ready.1 hi).1)
    omega

def Step2B (P : Program) (ops : Array Oper) (n : Nat) (tm : Array Value) (w : World) (Pan : List PanicEntry → World → Prop) (Bs : List VB) (k : Nat) (o : Oper) (V : VB) : Prop :=
  ∃ D, (looks ops o).map (place ops n k) = D ∧ ∀ (ρ : Operand → Value) (W : World), Plain ρ → Gr w W → FactsD (Bs.map exB) tm ρ W D →
    (Lets ops ρ o → GivesB P W V Pan ((execOp ρ o).run P W)) ∧ (¬ Lets ops ρ o → V (W.heap.size, W.heap.size) undef W)
def Chain2B (P : Program) (ops : Array Oper) (n : Nat) (tm : Array Value) (w : World) (Pan : List PanicEntry → World → Prop) : List Oper → Nat → List VB → (List VB → Prop) → Prop
  | [], _, Bs, fin => fin Bs
  | o :: r, k, Bs, fin => ∃ V, LastsB V ∧ Step2B P ops n tm w Pan Bs k o V ∧ Chain2B P ops n tm w Pan r (k + 1) (V :: Bs) fin
def HoldsB : List VB → Nat → (Nat → Value) → (Nat → Nat × Nat) → World → Prop
  | [], _, _, _, _ => True
  | V :: Bs, k, vs, bs, W => V (bs (k - 1)) (vs (k - 1)) W ∧ HoldsB Bs (k - 1) vs bs W
theorem HoldsB.of {vs : Nat → Value} {bs : Nat → Nat × Nat} {W : World} : ∀ {Bs : List VB}, (∀ i, i < Bs.length → (Bs.reverse.getD i fun _ _ _ => True) (bs i) (vs i) W) → HoldsB Bs Bs.length vs bs W
  | [], _ => trivial
  | V :: Bs, h => by
    refine ⟨?_, ?_⟩
    · have := h Bs.length (by simp)
      simpa using this
    · have := HoldsB.of (Bs := Bs) (vs := vs) (bs := bs) (W := W) fun i hi => by
        have := h i (by simp; omega)
        rw [List.reverse_cons] at this
        simp only [List.getD_eq_getElem?_getD] at this ⊢
        rwa [List.getElem?_append_left (by simpa using hi)] at this
      simpa using this
variable {tm : Array Value} {Pan : List PanicEntry → World → Prop} {o : Oper} {r : List Oper} {Bs : List VB} {fin : List VB → Prop} {k : Nat}
theorem Chain2B.vs {l : List Oper} : ∀ (r : List Oper) (k : Nat) (Bs : List VB), Bs.length = k → (∀ V ∈ Bs, LastsB V) →
    (∀ j o, j < k → l.toArray[j]? = some o → StepB P l.toArray n tm w Pan ((Bs.map exB).reverse.take j) o (Bs.reverse.getD j fun _ _ _ => True)) →
    (∀ j, j < r.length → r[j]? = l.toArray[k + j]?) → Chain2B P l.toArray n tm w Pan r k Bs fin →
    ∃ L : List VB, L.length = k + r.length ∧ (∀ V ∈ L, LastsB V) ∧ (∀ j o, j < k + r.length → l.toArray[j]? = some o → StepB P l.toArray n tm w Pan ((L.map exB).reverse.take j) o (L.reverse.getD j fun _ _ _ => True)) ∧ fin L
  | [], k, Bs, h1, h2, h3, _, h => ⟨Bs, by simpa using h1, h2, by simpa using h3, h⟩
  | o :: r, k, Bs, h1, h2, h3, h4, h => by
    obtain ⟨V, hV, ⟨D, hD, hst⟩, hrest⟩ := h
    have h0 : l.toArray[k]? = some o := by simpa using (h4 0 (by simp)).symm
    have := Chain2B.vs (l := l) r (k + 1) (V :: Bs) (by simp [h1]) (fun X hX => by
      rcases List.mem_cons.1 hX with rfl | hX
      · exact hV
      · exact h2 X hX) (fun j o' hj ho' => by
        by_cases hji : j = k
        · subst hji
          have : o' = o := Option.some.inj (ho'.symm.trans h0)
          subst this
          have e1 : ((V :: Bs).map exB).reverse.take j = (Bs.map exB).reverse := by rw [← h1]; simp
          have e2 : (V :: Bs).reverse.getD j (fun _ _ _ => True) = V := by rw [← h1]; simp
          rw [e1, e2]
          exact fun ρ W hp hG hF => hst ρ W hp hG (by rw [← hD]; exact FactsD.of (by simpa using h1) hF)
        · have hj' : j < k := by omega
          have := h3 j o' hj' ho'
          have e1 : ((V :: Bs).map exB).reverse.take j = (Bs.map exB).reverse.take j := by rw [List.map_cons, List.reverse_cons, List.take_append_of_le_length (by simp; omega)]
          have e2 : (V :: Bs).reverse.getD j (fun _ _ _ => True) = Bs.reverse.getD j (fun _ _ _ => True) := by
            simp [List.getElem?_append_left (show j < Bs.reverse.length by simp; omega)]
          rw [e1, e2]; exact this) (fun j hj => by
        have := h4 (j + 1) (by simp; omega)
        simpa [Nat.add_assoc, Nat.add_comm 1 j] using this) hrest
    obtain ⟨L, l1, l2, l3, l4⟩ := this
    exact ⟨L, by simp; omega, l2, fun j o' hj => l3 j o' (by simp at hj; omega), l4⟩

/-- A region whose order is open: of each of the first n a fact that lasts, and between which sizes of the heap it was carried out. -/
theorem regionB {id : Nat} {l : List Oper} (n : Nat) (hm : P.follows .mixedOrders = true) (hok : regionOk l.toArray n a.tmps.size = true)
    (h : Chain2B P l.toArray n a.tmps w.drew (fun c W => ∀ a', a'.defers = a.defers → Q (.panic c) a' W) (l.take n) 0 [] fun Bs =>
      ∀ (vs : Nat → Value) (bs : Nat → Nat × Nat) (W : World), Gr w W → HoldsB Bs n vs bs W → (∀ i j, i < n → j < n → i ≠ j → (bs i).2 ≤ (bs j).1 ∨ (bs j).2 ≤ (bs i).1) → wpList P l.toArray Q (l.drop n) (lay l.toArray vs n a) W) :
    (Code.region id l.toArray true).wp P Q a w := by
  simp only [regionOk, Bool.and_eq_true, Bool.or_eq_true, decide_eq_true_eq] at hok
  obtain ⟨⟨⟨hn, hh⟩, ht⟩, hseq⟩ := hok
  have hnl : n ≤ l.length := by simpa using hn
  have htl : (l.take n).length = n := by simp; omega
  obtain ⟨L, l1, l2, l3, l4⟩ := Chain2B.vs (l := l) (l.take n) 0 [] rfl (by simp) (fun j o hj => by omega) (fun j hj => by
    have hj' : j < n := by rw [htl] at hj; exact hj
    simp [hj']) h
  rw [htl] at l1 l3
  have hheads := heads_of hh
  have hlast : ∀ i, LastsB (L.reverse.getD i fun _ _ _ => True) := fun i => by
    rcases Nat.lt_or_ge i L.length with h' | h'
    · have hm := List.getElem_mem (l := L.reverse) (n := i) (by simpa using h')
      rw [show L.reverse.getD i (fun _ _ _ => True) = L.reverse[i]'(by simpa using h') by rw [List.getD_eq_getElem?_getD, List.getElem?_eq_getElem (by simpa using h')]; rfl]
      exact l2 _ (List.mem_reverse.1 hm)
    · rw [show L.reverse.getD i (fun _ _ _ => True) = fun _ _ _ => True by rw [List.getD_eq_getElem?_getD, List.getElem?_eq_none (by simpa using h')]; rfl]
      exact fun _ _ _ _ _ _ => trivial
  have inv0 : HeadInv .any l.toArray n (Array.replicate l.toArray.size false) :=
    ⟨by simp, fun j oj _ hl => (by rw [getD_replicate_false] at hl; cases hl), fun t _ ht => getD_in (by simpa using ht) (getD_replicate_false _ _)⟩
  have h0 : HB l.toArray n (fun i => L.reverse.getD i fun _ _ _ => True) (fun _ => (0, 0)) a w.drew (Array.replicate l.toArray.size false) a w.drew :=
    ⟨⟨inv0, Gr.same _, rfl, rfl, fun i d _ _ hl => (by rw [getD_replicate_false] at hl; cases hl), fun _ _ => rfl⟩, fun i d _ _ hl => (by rw [getD_replicate_false] at hl; cases hl), fun i j _ _ _ hl => (by rw [getD_replicate_false] at hl; cases hl), fun i _ hl => (by rw [getD_replicate_false] at hl; cases hl)⟩
  have hopen : open_ n (Array.replicate l.toArray.size false) = n := by
    unfold open_
    rw [List.filter_eq_self.2 fun i _ => by rw [getD_replicate_false]; rfl]
    simp
  refine wp_region_any hm ?_
  have := wpAny_of_chainB (P := P) (Q := Q) (n := n) (Vs := fun i => L.reverse.getD i fun _ _ _ => True) (a := a) (w := w.drew) (l := l) hlast (Pan := fun c W => ∀ a', a'.defers = a.defers → Q (.panic c) a' W) (L.map exB).reverse hheads hnl
    (fun listed inv hun t htn hr => by
      rcases ht with ht | ht
      · obtain ⟨_, ot, hot, _⟩ := mem_ready.1 hr
        have := (Array.getElem?_eq_some_iff.1 hot).1
        omega
      · obtain ⟨i, hi, hx⟩ := hun
        by_cases hlt : n < l.toArray.size
        · exact tail_waits ht.1 ht.2 hlt inv _ i rfl hi hx t htn hr
        · obtain ⟨_, ot, hot, _⟩ := mem_ready.1 hr
          have := (Array.getElem?_eq_some_iff.1 hot).1
          omega)
    (by simpa using hseq) (fun j hj => by
      rw [← List.map_reverse]
      simp only [List.getD_eq_getElem?_getD, List.getElem?_map]
      rw [List.getElem?_eq_getElem (by simp; omega)]
      rfl) (fun i o hi ho => l3 i o (by omega) ho) (fun c W hp a' hd => hp a' hd)
    (fun bs a' W hB => by
      have hI := hB.hi
      have e : a' = lay l.toArray (fun i => a'.tmps.getD (((l.toArray[i]?).bind (·.dst)).getD 0) undef) n a := by
        have ed : a'.defers = (lay l.toArray (fun i => a'.tmps.getD (((l.toArray[i]?).bind (·.dst)).getD 0) undef) n a).defers := by rw [lay_defers]; exact hI.defers
        have et : a'.tmps = (lay l.toArray (fun i => a'.tmps.getD (((l.toArray[i]?).bind (·.dst)).getD 0) undef) n a).tmps := by
          refine Array.ext (by rw [lay_size]; exact hI.size) fun t h1 h2 => ?_
          have h3 : t < a.tmps.size := by rw [← hI.size]; exact h1
          refine Option.some.inj ?_
          rw [← Array.getElem?_eq_getElem h1, ← Array.getElem?_eq_getElem h2]
          cases hf : fills l.toArray n t with
          | none =>
            rw [lay_other _ n a fun i hi => fills_none hf i hi]
            have := hI.rest t fun i hi hd => absurd hd (fills_none hf i hi)
            simp only [Array.getD_eq_getD_getElem?, Array.getElem?_eq_getElem h1, Array.getElem?_eq_getElem h3, Option.getD_some] at this
            rw [Array.getElem?_eq_getElem h1, Array.getElem?_eq_getElem h3, this]
          | some k =>
            obtain ⟨hk, hd⟩ := fills_some hf
            obtain ⟨o, d, hdk⟩ := hheads k hk
            have hdt : d = t := by rw [hdk.op] at hd; exact Option.some.inj (hdk.dst.symm.trans hd)
            subst hdt
            rw [lay_at _ n a hk hd h3 hdk.only, hd]
            simp only [Option.getD_some, Array.getD_eq_getD_getElem?, Array.getElem?_eq_getElem h1]
        cases a'; cases hlay : lay l.toArray _ n a
        rw [hlay] at ed et
        simp only at ed et
        rw [ed, et]
      rw [e]
      have hhalf : ∀ i, i < n → (half n l.length).getD i false = true := fun i hi => by simp [half, hi, show i < l.length by omega]
      have hho := HoldsB.of (Bs := L) (vs := fun i => a'.tmps.getD (((l.toArray[i]?).bind (·.dst)).getD 0) undef) (bs := bs) (W := W) fun i hi => by
        obtain ⟨o, d, hd⟩ := hheads i (by omega)
        have hdd : (l.toArray[i]?).bind (·.dst) = some d := by rw [hd.op]; exact hd.dst
        have := hB.done i d (by omega) hdd (hhalf i (by omega))
        simp only [hdd, Option.getD_some]
        exact this
      rw [show L.length = n by omega] at hho
      exact l4 _ bs W ((Gr.drew w).tr hI.grow) hho fun i j hi hj hij => hB.disj i j hi hj hij (hhalf i hi) (hhalf j hj))
    n (Array.replicate l.toArray.size false) a w.drew hopen ⟨_, h0⟩
  rw [show n + (l.length - n) = l.toArray.size by simp; omega] at this
  exact this

variable {D : List (Tmp × Option Nat)} {V : VB}
theorem chainB_any (hg : o.guard = none) (hD : (looks ops o).map (place ops n k) = D) (hV : LastsB V) (h : ∀ (ρ : Operand → Value) (W : World), Plain ρ → Gr w W → FactsD (Bs.map exB) tm ρ W D → ∀ K : Result Next → Prop, (∀ r, GivesB P W V Pan r → K r) → K ((execOp ρ o).run P W))
    (hr : Chain2B P ops n tm w Pan r (k + 1) (V :: Bs) fin) : Chain2B P ops n tm w Pan (o :: r) k Bs fin :=
  ⟨V, hV, ⟨D, hD, fun ρ W hp hG hF => ⟨fun _ => h ρ W hp hG hF _ fun _ h => h, fun hno => absurd (show Lets ops ρ o by simp [Lets, hg]) hno⟩⟩, hr⟩
/-- An operation of which a fact is known that names no size. -/
theorem chainB_fact {V : Value → World → Prop} (hg : o.guard = none) (hD : (looks ops o).map (place ops n k) = D) (hV : Lasts V) (h : ∀ (ρ : Operand → Value) (W : World), Plain ρ → Gr w W → FactsD (Bs.map exB) tm ρ W D → ∀ K : Result Next → Prop, (∀ r, Gives P W V Pan r → K r) → K ((execOp ρ o).run P W))
    (hr : Chain2B P ops n tm w Pan r (k + 1) ((fun _ => V) :: Bs) fin) : Chain2B P ops n tm w Pan (o :: r) k Bs fin :=
  chainB_any hg hD (fun _ => hV) (fun ρ W hp hG hF K hK => h ρ W hp hG hF K fun r hr => hK r (GivesB.of hr)) hr
theorem chainB_eq {c : Value} (hg : o.guard = none) (hD : (looks ops o).map (place ops n k) = D) (h : ∀ (ρ : Operand → Value) (W : World), Plain ρ → Gr w W → FactsD (Bs.map exB) tm ρ W D → ∀ K : Result Next → Prop, (∀ r, Gives P W (fun v _ => v = c) Pan r → K r) → K ((execOp ρ o).run P W))
    (hr : Chain2B P ops n tm w Pan r (k + 1) ((fun _ v _ => v = c) :: Bs) fin) : Chain2B P ops n tm w Pan (o :: r) k Bs fin := chainB_fact hg hD (Lasts.eq c) h hr
theorem chainB_done (h : fin Bs) : Chain2B P ops n tm w Pan [] k Bs fin := h
end
/-- A pointer to a block of these cells that was made between two sizes of the heap. -/
def NewB (vs : List Value) (T : TypeId) : VB := fun p v w => ∃ b, v = .pointer (some ⟨b, 0, none⟩) ∧ p.1 ≤ b ∧ b < p.2 ∧ Box w b vs T
theorem NewB.lasts (vs : List Value) (T : TypeId) : LastsB (NewB vs T) := fun _ _ _ _ ⟨b, h1, h2, h3, h4⟩ hg => ⟨b, h1, h2, h3, h4.grow hg⟩
theorem NewB.new (W : World) (vs : List Value) (T : TypeId) : NewB vs T (W.heap.size, (W.alloc (.cells vs.toArray T)).heap.size) (.pointer (some ⟨W.heap.size, 0, none⟩)) (W.alloc (.cells vs.toArray T)) := ⟨_, rfl, Nat.le_refl _, by simp, Box.fresh W vs T⟩
end Go.Proofs.Ytjlaoiimbhlafaa
namespace Go.Proofs.Ytjlaoiimbhlafaa
open Go.RowKit
section
variable {P : Program} {ops : Array Oper} {Q : Exit → Act → World → Prop} {n : Nat} {Vs : Nat → VB} {a a' : Act} {w W W' : World} {listed : Array Bool}

/-- The first n have come up but one. -/
def halfL (n j size : Nat) : Array Bool := ((List.range size).map fun i => decide (i < n) && decide (i ≠ j)).toArray
def sinkL (ops : Array Oper) (n j : Nat) : Bool :=
  (List.range n).all fun i => i == j || (List.range (n + 1)).any fun k => decide (i < k) && decide (k ≠ j) && Region.waitsFor .any ops k i
def lateOk (ops : Array Oper) (n j size : Nat) : Bool :=
  decide (n < ops.size) && decide (j < n) && (List.range n).all (fun k => headOk ops n k size) && sinkL ops n j && Region.chainB .any ops n &&
  decide (Region.ready .any ops (halfL n j ops.size) = [j, n]) && decide (Region.ready .any ops ((halfL n j ops.size).setIfInBounds n true) = [j]) &&
  Region.seqB .any ops (ops.size - n) n (half n ops.size) && Region.seqB .any ops (ops.size - n - 1) (n + 1) (((halfL n j ops.size).setIfInBounds n true).setIfInBounds j true)

theorem tail_waitsL {j : Nat} (hs : sinkL ops n j = true) (hc : Region.chainB .any ops n = true) (inv : HeadInv .any ops n listed) :
    ∀ (d i : Nat), n - i = d → i < n → i ≠ j → listed.getD i true = false → ∀ t, n ≤ t → t ∉ Region.ready .any ops listed := by
  intro d
  induction d using Nat.strongRecOn with
  | _ d ih =>
    intro i hd hi hij hun t ht hr
    obtain ⟨_, ot, hot, hall⟩ := mem_ready.1 hr
    have htlt : t < ops.size := (Array.getElem?_eq_some_iff.1 hot).1
    have h1 := List.all_eq_true.1 hs i (List.mem_range.2 hi)
    have h1' : (List.range (n + 1)).any (fun k => decide (i < k) && decide (k ≠ j) && Region.waitsFor .any ops k i) = true := by
      simp only [Bool.or_eq_true] at h1
      rcases h1 with h | h
      · exact absurd (by simpa using h) hij
      · exact h
    obtain ⟨k, hk, hk2⟩ := List.any_eq_true.1 h1'
    simp only [Bool.and_eq_true, decide_eq_true_eq] at hk2
    obtain ⟨⟨hik, hkj⟩, hwk⟩ := hk2
    have hkn : k ≤ n := by have := List.mem_range.1 hk; omega
    obtain ⟨ok, hok, e, he, hb, hon⟩ := Region.waitsFor_spec hwk
    by_cases hkl : k < n
    · have hkun : listed.getD k true = false := by
        have hks : k < listed.size := by rw [inv.size]; exact (Array.getElem?_eq_some_iff.1 hok).1
        cases hx : listed.getD k false with
        | false => exact getD_in hks hx
        | true =>
          have := inv.closed k ok hok hx e he hb
          rw [hon] at this
          rw [getD_both hun] at this
          cases this
      exact ih (n - k) (by omega) k rfl hkl hkj hkun t ht hr
    · have hkn' : k = n := by omega
      subst hkn'
      by_cases htk : t = k
      · subst htk
        have : ot = ok := Option.some.inj (hot.symm.trans hok)
        subst this
        have := hall e he hb
        rw [hon, getD_both hun] at this
        cases this
      · have h2 := List.all_eq_true.1 hc t (List.mem_range.2 htlt)
        simp only [Bool.or_eq_true, decide_eq_true_eq] at h2
        rcases h2 with h2 | h2
        · omega
        · obtain ⟨o2, ho2, e2, he2, hb2, hon2⟩ := Region.waitsFor_spec h2
          have : o2 = ot := Option.some.inj (ho2.symm.trans hot)
          subst this
          have h3 := hall e2 he2 hb2
          rw [hon2, getD_both (inv.tail (t - 1) (by omega) (by omega))] at h3
          cases h3

theorem wpAny_of_chainL {l : List Oper} {j : Nat} (hj : j < n) (hl : ∀ i, LastsB (Vs i)) {Pan : List PanicEntry → World → Prop} (L : List (Value → World → Prop))
    (hheads : ∀ k, k < n → ∃ o d, HeadOk l.toArray n a.tmps.size k o d) (hnl : n < l.length)
    (hs1 : sinkL l.toArray n j = true) (hc1 : Region.chainB .any l.toArray n = true)
    (hr1 : Region.ready .any l.toArray (halfL n j l.length) = [j, n]) (hr2 : Region.ready .any l.toArray ((halfL n j l.length).setIfInBounds n true) = [j])
    (hseq : Region.seqB .any l.toArray (l.length - n) n (half n l.length) = true)
    (hseq2 : Region.seqB .any l.toArray (l.length - n - 1) (n + 1) (((halfL n j l.length).setIfInBounds n true).setIfInBounds j true) = true)
    (hL : ∀ j, j < n → L.getD j (fun _ _ => True) = exB (Vs j)) (hs : ∀ i o, i < n → l.toArray[i]? = some o → StepB P l.toArray n a.tmps w Pan (L.take i) o (Vs i))
    (hP : ∀ c W, Pan c W → ∀ a', a'.defers = a.defers → Q (.panic c) a' W)
    (hfin : ∀ bs a' W, HB l.toArray n Vs bs a w (half n l.length) a' W → wpList P l.toArray Q (l.drop n) a' W)
    (hfin2 : ∀ bs a' W, HB l.toArray n Vs bs a w (halfL n j l.length) a' W → wpOp P l.toArray Q n (fun a1 W1 => wpOp P l.toArray Q j (fun a2 W2 => wpList P l.toArray Q (l.drop (n + 1)) a2 W2) a1 W1) a' W) :
    ∀ (c : Nat) (listed : Array Bool) (a' : Act) (W : World), open_ n listed = c → (∃ bs, HB l.toArray n Vs bs a w listed a' W) → wpAny P .any l.toArray Q (c + (l.length - n)) listed a' W := by
  intro c
  induction c with
  | zero =>
    intro listed a' W hc ⟨bs, h⟩
    have he : listed = half n l.length := by
      refine Array.ext (by rw [h.hi.inv.size]; simp [half]) fun i h1 h2 => ?_
      have h1' : i < l.length := by have := h.hi.inv.size; simp at this; omega
      by_cases hin : i < n
      · have := open_zero hc i hin
        simp only [Array.getD_eq_getD_getElem?, Array.getElem?_eq_getElem h1, Option.getD_some] at this
        simp [half, this, hin]
      · have := h.hi.inv.tail i (by omega) (by simpa using h1')
        simp only [Array.getD_eq_getD_getElem?, Array.getElem?_eq_getElem h1, Option.getD_some] at this
        simp [half, this, hin]
    subst he
    have h1 := wpAny_of_seq (md := .any) (Q' := Q) (P := P) (ops := l.toArray) (l.drop n) n (half n l.length) a' W (fun j => by simp [List.getElem?_drop]) (by simpa using hseq) (hfin bs a' W h)
    simpa using h1
  | succ c ih =>
    intro listed a' W hc ⟨bs, h⟩
    rw [show c + 1 + (l.length - n) = (c + (l.length - n)) + 1 by omega]
    have hsz : listed.size = l.length := by simpa using h.hi.inv.size
    have hex : ∃ i, i < n ∧ listed.getD i false = false := by
      apply Classical.byContradiction
      intro hno
      have : open_ n listed = 0 := by
        unfold open_
        rw [List.length_eq_zero_iff, List.filter_eq_nil_iff]
        intro i hi
        have hi' := List.mem_range.1 hi
        cases hx : listed.getD i false with
        | true => simp
        | false => exact absurd ⟨i, hi', hx⟩ hno
      omega
    have hready : Region.ready .any l.toArray listed ≠ [] := by
      obtain ⟨i, hi, hx, hleast⟩ := exists_first n hex
      obtain ⟨o, d, hd⟩ := hheads i hi
      have : i ∈ Region.ready .any l.toArray listed := by
        refine mem_ready.2 ⟨getD_in (by omega) hx, o, hd.op, fun e he hb => ?_⟩
        have := hleast e.on (hd.early e he hb)
        simpa using this
      intro h0
      rw [h0] at this
      cases this
    refine ⟨fun h0 => absurd h0 hready, fun i hi => ?_⟩
    rcases Nat.lt_or_ge i n with hin | hge
    · obtain ⟨o, d, hd⟩ := hheads i hin
      have hLi : ∀ j, j < i → (L.take i).getD j (fun _ _ => True) = exB (Vs j) := fun j hj => by
        rw [← hL j (by omega)]
        simp [hj]
      refine wpOp_mono (fun a'' W'' h' => ih _ a'' W'' ?_ h') (h.step hl hd hin hi hLi (hs i o hin hd.op) hP)
      have h1 := open_set (n := n) hin (by omega : i < listed.size) (getD_both (mem_ready.1 hi).1)
      omega
    · -- the tail's first one comes up ahead of the late one
      have hall : ∀ k, k < n → k ≠ j → listed.getD k false = true := fun k hk hkj => by
        cases hx : listed.getD k false with
        | true => rfl
        | false => exact absurd hi (tail_waitsL hs1 hc1 h.hi.inv _ k rfl hk hkj (getD_in (by omega) hx) i hge)
      have hjo : listed.getD j false = false := by
        obtain ⟨k, hk, hx⟩ := hex
        by_cases hkj : k = j
        · subst hkj; exact hx
        · rw [hall k hk hkj] at hx; cases hx
      have he : listed = halfL n j l.length := by
        refine Array.ext (by rw [h.hi.inv.size]; simp [halfL]) fun k h1 h2 => ?_
        have h1' : k < l.length := by omega
        by_cases hkn : k < n
        · by_cases hkj : k = j
          · subst hkj
            simp only [Array.getD_eq_getD_getElem?, Array.getElem?_eq_getElem h1, Option.getD_some] at hjo
            simp [halfL, hjo]
          · have := hall k hkn hkj
            simp only [Array.getD_eq_getD_getElem?, Array.getElem?_eq_getElem h1, Option.getD_some] at this
            simp [halfL, this, hkn, hkj]
        · have := h.hi.inv.tail k (by omega) (by simpa using h1')
          simp only [Array.getD_eq_getD_getElem?, Array.getElem?_eq_getElem h1, Option.getD_some] at this
          simp [halfL, this, hkn]
      have hc0 : c = 0 := by
        have h1 := open_set (n := n) hj (by omega : j < listed.size) hjo
        have h2 : open_ n (listed.setIfInBounds j true) = 0 := by
          unfold open_
          rw [List.length_eq_zero_iff, List.filter_eq_nil_iff]
          intro k hk
          have hk' := List.mem_range.1 hk
          by_cases hkj : k = j
          · subst hkj; rw [listed_set_self (by omega)]; simp
          · rw [getD_set_ne false (fun e => hkj e.symm), hall k hk' hkj]; simp
        omega
      subst he
      rw [hr1] at hi
      have hin : i = n := by
        rcases List.mem_cons.1 hi with e | e
        · omega
        · simpa using e
      subst hin
      rw [hc0, show 0 + (l.length - i) = (l.length - i - 1) + 1 by omega]
      refine wpOp_mono (fun a1 W1 h1 => ⟨fun h0 => (by rw [hr2] at h0; cases h0), fun k hk => ?_⟩) (hfin2 bs a' W h)
      rw [hr2] at hk
      have hkj : k = j := by simpa using hk
      subst hkj
      refine wpOp_mono (fun a2 W2 h2 => ?_) h1
      have h3 := wpAny_of_seq (md := .any) (Q' := Q) (P := P) (ops := l.toArray) (l.drop (i + 1)) (i + 1) _ a2 W2 (fun j => by simp [List.getElem?_drop]) (by rw [show (l.drop (i + 1)).length = l.length - i - 1 by simp; omega]; exact hseq2) h2
      rwa [show (l.drop (i + 1)).length = l.length - i - 1 by simp; omega] at h3

/-- The values laid into their temporaries, but for one operation. -/
def layL (ops : Array Oper) (vs : Nat → Value) (j : Nat) : Nat → Act → Act
  | 0, a => a
  | k + 1, a => if k = j then layL ops vs j k a else (layL ops vs j k a).put ((ops[k]?).bind (·.dst)) (vs k)
theorem layL_defers (vs : Nat → Value) (j : Nat) : ∀ (k : Nat) (a : Act), (layL ops vs j k a).defers = a.defers
  | 0, _ => rfl
  | k + 1, a => by
    unfold layL
    split
    · exact layL_defers vs j k a
    · cases (ops[k]?).bind (·.dst) <;> simp [Act.put, layL_defers vs j k a]
theorem layL_size (vs : Nat → Value) (j : Nat) : ∀ (k : Nat) (a : Act), (layL ops vs j k a).tmps.size = a.tmps.size
  | 0, _ => rfl
  | k + 1, a => by
    unfold layL
    split
    · exact layL_size vs j k a
    · cases (ops[k]?).bind (·.dst) <;> simp [Act.put, layL_size vs j k a]
theorem layL_other (vs : Nat → Value) (j : Nat) {t : Tmp} : ∀ (k : Nat) (a : Act), (∀ i, i < k → i ≠ j → (ops[i]?).bind (·.dst) ≠ some t) → (layL ops vs j k a).tmps[t]? = a.tmps[t]?
  | 0, _, _ => rfl
  | k + 1, a, h => by
    unfold layL
    have h2 := layL_other vs j k a fun i hi => h i (by omega)
    split
    · exact h2
    · rename_i hkj
      have h1 := h k (by omega) hkj
      cases hd : (ops[k]?).bind (·.dst) with
      | none => simpa [Act.put] using h2
      | some d =>
        have hne : d ≠ t := fun e => h1 (by rw [hd, e])
        simp [Act.put, Array.getElem?_setIfInBounds_ne hne, h2]
theorem layL_at (vs : Nat → Value) (j : Nat) {d i : Nat} : ∀ (k : Nat) (a : Act), i < k → i ≠ j → (ops[i]?).bind (·.dst) = some d → d < a.tmps.size → (∀ i', i' < k → (ops[i']?).bind (·.dst) = some d → i' = i) → (layL ops vs j k a).tmps[d]? = some (vs i)
  | 0, _, h, _, _, _, _ => absurd h (by omega)
  | k + 1, a, hi, hij, hd, hs, hu => by
    unfold layL
    by_cases hik : i = k
    · subst hik
      rw [if_neg hij, hd]
      have : d < (layL ops vs j i a).tmps.size := by rw [layL_size]; exact hs
      simp [Act.put, this]
    · have h2 := layL_at vs j k a (by omega) hij hd hs fun i' hi' hid => hu i' (by omega) hid
      split
      · exact h2
      · cases hdk : (ops[k]?).bind (·.dst) with
        | none => simpa [Act.put] using h2
        | some d' =>
          have hne : d' ≠ d := fun e => hik (hu k (by omega) (by rw [hdk, e])).symm
          simp [Act.put, Array.getElem?_setIfInBounds_ne hne, h2]
/-- The facts but for one. -/
def HoldsL (j : Nat) : List VB → Nat → (Nat → Value) → (Nat → Nat × Nat) → World → Prop
  | [], _, _, _, _ => True
  | V :: Bs, k, vs, bs, W => (if k - 1 = j then True else V (bs (k - 1)) (vs (k - 1)) W) ∧ HoldsL j Bs (k - 1) vs bs W
theorem HoldsL.of {j : Nat} {vs : Nat → Value} {bs : Nat → Nat × Nat} {W : World} : ∀ {Bs : List VB}, (∀ i, i < Bs.length → i ≠ j → (Bs.reverse.getD i fun _ _ _ => True) (bs i) (vs i) W) → HoldsL j Bs Bs.length vs bs W
  | [], _ => trivial
  | V :: Bs, h => by
    refine ⟨?_, ?_⟩
    · split
      · trivial
      · rename_i hk
        have := h Bs.length (by simp) (by simpa using hk)
        simpa using this
    · have := HoldsL.of (j := j) (Bs := Bs) (vs := vs) (bs := bs) (W := W) fun i hi hij => by
        have := h i (by simp; omega) hij
        rw [List.reverse_cons] at this
        simp only [List.getD_eq_getElem?_getD] at this ⊢
        rwa [List.getElem?_append_left (by simpa using hi)] at this
      simpa using this

/-- A region whose order is open, of which operation j may come behind the first of the tail. -/
theorem regionL {id : Nat} {l : List Oper} (n j : Nat) (hm : P.follows .mixedOrders = true) (hok : lateOk l.toArray n j a.tmps.size = true)
    (h : Chain2B P l.toArray n a.tmps w.drew (fun c W => ∀ a', a'.defers = a.defers → Q (.panic c) a' W) (l.take n) 0 [] fun Bs =>
      (∀ (vs : Nat → Value) (bs : Nat → Nat × Nat) (W : World), Gr w W → HoldsB Bs n vs bs W → (∀ i k, i < n → k < n → i ≠ k → (bs i).2 ≤ (bs k).1 ∨ (bs k).2 ≤ (bs i).1) → wpList P l.toArray Q (l.drop n) (lay l.toArray vs n a) W) ∧
      (∀ (vs : Nat → Value) (bs : Nat → Nat × Nat) (W : World), Gr w W → HoldsL j Bs n vs bs W → (∀ i k, i < n → k < n → i ≠ j → k ≠ j → i ≠ k → (bs i).2 ≤ (bs k).1 ∨ (bs k).2 ≤ (bs i).1) → wpOp P l.toArray Q n (fun a1 W1 => wpOp P l.toArray Q j (fun a2 W2 => wpList P l.toArray Q (l.drop (n + 1)) a2 W2) a1 W1) (layL l.toArray vs j n a) W)) :
    (Code.region id l.toArray true).wp P Q a w := by
  simp only [lateOk, Bool.and_eq_true, decide_eq_true_eq] at hok
  obtain ⟨⟨⟨⟨⟨⟨⟨⟨hn, hjn⟩, hh⟩, hsk⟩, hch⟩, hr1⟩, hr2⟩, hseq⟩, hseq2⟩ := hok
  have hnl : n < l.length := by simpa using hn
  have htl : (l.take n).length = n := by simp; omega
  obtain ⟨L, l1, l2, l3, l4⟩ := Chain2B.vs (l := l) (l.take n) 0 [] rfl (by simp) (fun j o hj => by omega) (fun j hj => by
    have hj' : j < n := by rw [htl] at hj; exact hj
    simp [hj']) h
  rw [htl] at l1 l3
  have hheads := heads_of hh
  have hlast : ∀ i, LastsB (L.reverse.getD i fun _ _ _ => True) := fun i => by
    rcases Nat.lt_or_ge i L.length with h' | h'
    · have hm := List.getElem_mem (l := L.reverse) (n := i) (by simpa using h')
      rw [show L.reverse.getD i (fun _ _ _ => True) = L.reverse[i]'(by simpa using h') by rw [List.getD_eq_getElem?_getD, List.getElem?_eq_getElem (by simpa using h')]; rfl]
      exact l2 _ (List.mem_reverse.1 hm)
    · rw [show L.reverse.getD i (fun _ _ _ => True) = fun _ _ _ => True by rw [List.getD_eq_getElem?_getD, List.getElem?_eq_none (by simpa using h')]; rfl]
      exact fun _ _ _ _ _ _ => trivial
  have inv0 : HeadInv .any l.toArray n (Array.replicate l.toArray.size false) :=
    ⟨by simp, fun j oj _ hl => (by rw [getD_replicate_false] at hl; cases hl), fun t _ ht => getD_in (by simpa using ht) (getD_replicate_false _ _)⟩
  have h0 : HB l.toArray n (fun i => L.reverse.getD i fun _ _ _ => True) (fun _ => (0, 0)) a w.drew (Array.replicate l.toArray.size false) a w.drew :=
    ⟨⟨inv0, Gr.same _, rfl, rfl, fun i d _ _ hl => (by rw [getD_replicate_false] at hl; cases hl), fun _ _ => rfl⟩, fun i d _ _ hl => (by rw [getD_replicate_false] at hl; cases hl), fun i j _ _ _ hl => (by rw [getD_replicate_false] at hl; cases hl), fun i _ hl => (by rw [getD_replicate_false] at hl; cases hl)⟩
  have hopen : open_ n (Array.replicate l.toArray.size false) = n := by
    unfold open_
    rw [List.filter_eq_self.2 fun i _ => by rw [getD_replicate_false]; rfl]
    simp
  refine wp_region_any hm ?_
  have := wpAny_of_chainL (P := P) (Q := Q) (n := n) (Vs := fun i => L.reverse.getD i fun _ _ _ => True) (a := a) (w := w.drew) (l := l) hjn hlast (Pan := fun c W => ∀ a', a'.defers = a.defers → Q (.panic c) a' W) (L.map exB).reverse hheads hnl hsk hch
    (by simpa using hr1) (by simpa using hr2) (by simpa using hseq) (by simpa using hseq2) (fun j hj => by
      rw [← List.map_reverse]
      simp only [List.getD_eq_getElem?_getD, List.getElem?_map]
      rw [List.getElem?_eq_getElem (by simp; omega)]
      rfl) (fun i o hi ho => l3 i o (by omega) ho) (fun c W hp a' hd => hp a' hd)
    (fun bs a' W hB => by
      have hI := hB.hi
      have e : a' = lay l.toArray (fun i => a'.tmps.getD (((l.toArray[i]?).bind (·.dst)).getD 0) undef) n a := by
        have ed : a'.defers = (lay l.toArray (fun i => a'.tmps.getD (((l.toArray[i]?).bind (·.dst)).getD 0) undef) n a).defers := by rw [lay_defers]; exact hI.defers
        have et : a'.tmps = (lay l.toArray (fun i => a'.tmps.getD (((l.toArray[i]?).bind (·.dst)).getD 0) undef) n a).tmps := by
          refine Array.ext (by rw [lay_size]; exact hI.size) fun t h1 h2 => ?_
          have h3 : t < a.tmps.size := by rw [← hI.size]; exact h1
          refine Option.some.inj ?_
          rw [← Array.getElem?_eq_getElem h1, ← Array.getElem?_eq_getElem h2]
          cases hf : fills l.toArray n t with
          | none =>
            rw [lay_other _ n a fun i hi => fills_none hf i hi]
            have := hI.rest t fun i hi hd => absurd hd (fills_none hf i hi)
            simp only [Array.getD_eq_getD_getElem?, Array.getElem?_eq_getElem h1, Array.getElem?_eq_getElem h3, Option.getD_some] at this
            rw [Array.getElem?_eq_getElem h1, Array.getElem?_eq_getElem h3, this]
          | some k =>
            obtain ⟨hk, hd⟩ := fills_some hf
            obtain ⟨o, d, hdk⟩ := hheads k hk
            have hdt : d = t := by rw [hdk.op] at hd; exact Option.some.inj (hdk.dst.symm.trans hd)
            subst hdt
            rw [lay_at _ n a hk hd h3 hdk.only, hd]
            simp only [Option.getD_some, Array.getD_eq_getD_getElem?, Array.getElem?_eq_getElem h1]
        cases a'; cases hlay : lay l.toArray _ n a
        rw [hlay] at ed et
        simp only at ed et
        rw [ed, et]
      rw [e]
      have hhalf : ∀ i, i < n → (half n l.length).getD i false = true := fun i hi => by simp [half, hi, show i < l.length by omega]
      have hho := HoldsB.of (Bs := L) (vs := fun i => a'.tmps.getD (((l.toArray[i]?).bind (·.dst)).getD 0) undef) (bs := bs) (W := W) fun i hi => by
        obtain ⟨o, d, hd⟩ := hheads i (by omega)
        have hdd : (l.toArray[i]?).bind (·.dst) = some d := by rw [hd.op]; exact hd.dst
        have := hB.done i d (by omega) hdd (hhalf i (by omega))
        simp only [hdd, Option.getD_some]
        exact this
      rw [show L.length = n by omega] at hho
      exact l4.1 _ bs W ((Gr.drew w).tr hI.grow) hho fun i j hi hj hij => hB.disj i j hi hj hij (hhalf i hi) (hhalf j hj))
    (fun bs a' W hB => by
      have hI := hB.hi
      have hhalf : ∀ i, i < n → i ≠ j → (halfL n j l.length).getD i false = true := fun i hi hij => by simp [halfL, hi, hij, show i < l.length by omega]
      have hjf : (halfL n j l.length).getD j false = false := by simp [halfL, show j < l.length by omega]
      have e : a' = layL l.toArray (fun i => a'.tmps.getD (((l.toArray[i]?).bind (·.dst)).getD 0) undef) j n a := by
        have ed : a'.defers = (layL l.toArray (fun i => a'.tmps.getD (((l.toArray[i]?).bind (·.dst)).getD 0) undef) j n a).defers := by rw [layL_defers]; exact hI.defers
        have et : a'.tmps = (layL l.toArray (fun i => a'.tmps.getD (((l.toArray[i]?).bind (·.dst)).getD 0) undef) j n a).tmps := by
          refine Array.ext (by rw [layL_size]; exact hI.size) fun t h1 h2 => ?_
          have h3 : t < a.tmps.size := by rw [← hI.size]; exact h1
          refine Option.some.inj ?_
          rw [← Array.getElem?_eq_getElem h1, ← Array.getElem?_eq_getElem h2]
          cases hf : fills l.toArray n t with
          | none =>
            rw [layL_other _ j n a fun i hi _ => fills_none hf i hi]
            have := hI.rest t fun i hi hd => absurd hd (fills_none hf i hi)
            simp only [Array.getD_eq_getD_getElem?, Array.getElem?_eq_getElem h1, Array.getElem?_eq_getElem h3, Option.getD_some] at this
            rw [Array.getElem?_eq_getElem h1, Array.getElem?_eq_getElem h3, this]
          | some k =>
            obtain ⟨hk, hd⟩ := fills_some hf
            obtain ⟨o, d, hdk⟩ := hheads k hk
            have hdt : d = t := by rw [hdk.op] at hd; exact Option.some.inj (hdk.dst.symm.trans hd)
            subst hdt
            by_cases hkj : k = j
            · subst hkj
              rw [layL_other _ k n a fun i hi hik hid => hik (hdk.only i hi hid)]
              have := hI.rest d fun i hi hid => by rw [hdk.only i hi hid]; exact hjf
              simp only [Array.getD_eq_getD_getElem?, Array.getElem?_eq_getElem h1, Array.getElem?_eq_getElem h3, Option.getD_some] at this
              rw [Array.getElem?_eq_getElem h1, Array.getElem?_eq_getElem h3, this]
            · rw [layL_at _ j n a hk hkj hd h3 hdk.only, hd]
              simp only [Option.getD_some, Array.getD_eq_getD_getElem?, Array.getElem?_eq_getElem h1]
        cases a'; cases hlay : layL l.toArray _ j n a
        rw [hlay] at ed et
        simp only at ed et
        rw [ed, et]
      rw [e]
      have hho := HoldsL.of (j := j) (Bs := L) (vs := fun i => a'.tmps.getD (((l.toArray[i]?).bind (·.dst)).getD 0) undef) (bs := bs) (W := W) fun i hi hij => by
        obtain ⟨o, d, hd⟩ := hheads i (by omega)
        have hdd : (l.toArray[i]?).bind (·.dst) = some d := by rw [hd.op]; exact hd.dst
        have := hB.done i d (by omega) hdd (hhalf i (by omega) hij)
        simp only [hdd, Option.getD_some]
        exact this
      rw [show L.length = n by omega] at hho
      exact l4.2 _ bs W ((Gr.drew w).tr hI.grow) hho fun i k hi hk hij hkj hik => hB.disj i k hi hk hik (hhalf i hi hij) (hhalf k hk hkj))
    n (Array.replicate l.toArray.size false) a w.drew hopen ⟨_, h0⟩
  rw [show n + (l.length - n) = l.toArray.size by simp; omega] at this
  exact this
end
/-- Two operations, one after the other, and the others. -/
theorem wpOp_two {P : Program} {l : List Oper} {Q : Exit → Act → World → Prop} {n j : Nat} {on oj : Oper} {a : Act} {W : World} (hn : l[n]? = some on) (hj : l[j]? = some oj) (h : wpList P l.toArray Q (on :: oj :: l.drop (n + 1)) a W) :
    wpOp P l.toArray Q n (fun a1 W1 => wpOp P l.toArray Q j (fun a2 W2 => wpList P l.toArray Q (l.drop (n + 1)) a2 W2) a1 W1) a W := by
  have e1 : l.toArray[n]? = some on := by simpa using hn
  have e2 : l.toArray[j]? = some oj := by simpa using hj
  simp only [wpOp, e1, e2]
  simpa [wpList] using h
end Go.Proofs.Ytjlaoiimbhlafaa
namespace Go.Proofs.Ytjlaoiimbhlafaa
open Go.RowKit

section
variable {P : Program} {ops : Array Oper} {Q : Exit → Act → World → Prop} {md : Region.Mode} {n : Nat} {Vs : Nat → Value → World → Prop} {a a' : Act} {w W W' : World} {listed : Array Bool}
def earlyOk (ops : Array Oper) (n p size : Nat) : Bool :=
  decide (n < ops.size) && decide (p < n) && (List.range n).all (fun k => headOk ops n k size) && sinkL ops n p && Region.chainB .any ops n && Region.seqB .any ops (ops.size - n) n (half n ops.size)
theorem wpAny_of_chain4 (p : Nat) {l : List Oper} (hl : ∀ i, Lasts (Vs i)) {Pan : List PanicEntry → World → Prop} (L : List (Value → World → Prop))
    (hheads : ∀ k, k < n → ∃ o d, HeadOk l.toArray n a.tmps.size k o d) (hnl : n ≤ l.length)
    (htw : ∀ listed, HeadInv .any l.toArray n listed → listed.getD p false = true → (∃ i, i < n ∧ listed.getD i true = false) → ∀ t, n ≤ t → t ∉ Region.ready .any l.toArray listed)
    (hseq : Region.seqB .any l.toArray (l.length - n) n (half n l.length) = true)
    (hL : ∀ j, L.getD j (fun _ _ => True) = Vs j) (hs : ∀ i o, i < n → l.toArray[i]? = some o → Step P l.toArray n a.tmps w Pan (L.take i) o (Vs i))
    (hP : ∀ c W, Pan c W → ∀ a', a'.defers = a.defers → Q (.panic c) a' W)
    (hfin : ∀ a' W, HI l.toArray n Vs a w (half n l.length) a' W → wpList P l.toArray Q (l.drop n) a' W) :
    ∀ (c : Nat) (listed : Array Bool) (a' : Act) (W : World), open_ n listed = c → HI l.toArray n Vs a w listed a' W → listed.getD p false = true → wpAny P .any l.toArray Q (c + (l.length - n)) listed a' W := by
  intro c
  induction c with
  | zero =>
    intro listed a' W hc h hlp
    have he : listed = half n l.length := by
      refine Array.ext (by rw [h.inv.size]; simp [half]) fun i h1 h2 => ?_
      have h1' : i < l.length := by have := h.inv.size; simp at this; omega
      by_cases hin : i < n
      · have := open_zero hc i hin
        simp only [Array.getD_eq_getD_getElem?, Array.getElem?_eq_getElem h1, Option.getD_some] at this
        simp [half, this, hin]
      · have := h.inv.tail i (by omega) (by simpa using h1')
        simp only [Array.getD_eq_getD_getElem?, Array.getElem?_eq_getElem h1, Option.getD_some] at this
        simp [half, this, hin]
    subst he
    have h1 := wpAny_of_seq (md := .any) (Q' := Q) (P := P) (ops := l.toArray) (l.drop n) n (half n l.length) a' W (fun j => by simp [List.getElem?_drop]) (by simpa using hseq) (hfin a' W h)
    simpa using h1
  | succ c ih =>
    intro listed a' W hc h hlp
    rw [show c + 1 + (l.length - n) = (c + (l.length - n)) + 1 by omega]
    have hsz : listed.size = l.length := by simpa using h.inv.size
    have hex : ∃ i, i < n ∧ listed.getD i false = false := by
      apply Classical.byContradiction
      intro hno
      have : open_ n listed = 0 := by
        unfold open_
        rw [List.length_eq_zero_iff, List.filter_eq_nil_iff]
        intro i hi
        have hi' := List.mem_range.1 hi
        cases hx : listed.getD i false with
        | true => simp
        | false => exact absurd ⟨i, hi', hx⟩ hno
      omega
    have hun : ∃ i, i < n ∧ listed.getD i true = false := by
      obtain ⟨i, hi, hx⟩ := hex
      exact ⟨i, hi, getD_in (by omega) hx⟩
    have hready : Region.ready .any l.toArray listed ≠ [] := by
      obtain ⟨i, hi, hx, hleast⟩ := exists_first n hex
      obtain ⟨o, d, hd⟩ := hheads i hi
      have : i ∈ Region.ready .any l.toArray listed := by
        refine mem_ready.2 ⟨getD_in (by omega) hx, o, hd.op, fun e he hb => ?_⟩
        have := hleast e.on (hd.early e he hb)
        simpa using this
      intro h0
      rw [h0] at this
      cases this
    refine ⟨fun h0 => absurd h0 hready, fun i hi => ?_⟩
    have hin : i < n := by
      rcases Nat.lt_or_ge i n with h' | h'
      · exact h'
      · exact absurd hi (htw listed h.inv hlp hun i h')
    obtain ⟨o, d, hd⟩ := hheads i hin
    have hLi : ∀ j, j < i → (L.take i).getD j (fun _ _ => True) = Vs j := fun j hj => by
      rw [← hL j]
      simp [hj]
    refine wpOp_mono (fun a'' W'' h' => ih _ a'' W'' ?_ h' (getD_set_true hlp)) (h.step hl hd hin hi hLi (hs i o hin hd.op) hP)
    have h1 := open_set (n := n) hin (by omega : i < listed.size) (getD_both (mem_ready.1 hi).1)
    omega
theorem region_chain4 {id : Nat} {l : List Oper} (n p : Nat) {oi : Oper} {v : Value} (hm : P.follows .mixedOrders = true) (hi : l.toArray[p]? = some oi) (hsel : Region.noSelect l.toArray = true)
    (hfree : Region.free .any l.toArray (Array.replicate l.toArray.size false) p = true) (hrd : (Region.ready .any l.toArray (Array.replicate l.toArray.size false)).contains p = true)
    (hQ : ∀ c a w, Q (.panic c) (a.put oi.dst v) w → Q (.panic c) a w) (hy : Yields P l.toArray oi v a)
    (hok : earlyOk l.toArray n p (a.put oi.dst v).tmps.size = true)
    (h : Chain P l.toArray n (a.put oi.dst v).tmps w.drew (fun c W => ∀ a', a'.defers = (a.put oi.dst v).defers → Q (.panic c) a' W) (l.take n) [] fun L =>
      (L.getD p fun _ _ => True) v w.drew ∧ ∀ (vs : Nat → Value) (W : World), Gr w W → (∀ i, i < n → (L.getD i fun _ _ => True) (vs i) W) → wpList P l.toArray Q (l.drop n) (lay l.toArray vs n (a.put oi.dst v)) W) :
    (Code.region id l.toArray true).wp P Q a w := by
  refine wp_region_any hm ?_
  simp only [earlyOk, Bool.and_eq_true, decide_eq_true_eq] at hok
  obtain ⟨⟨⟨⟨⟨hn, hpn⟩, hh⟩, hsink⟩, hchain⟩, hseq⟩ := hok
  have hnl : n ≤ l.length := by have := hn; simp at this; omega
  have hll : n < l.length := by simpa using hn
  rw [show l.toArray.size = (l.length - 1) + 1 by simp; omega]
  refine wpAny_take hi hsel (by rw [show (l.length - 1) + 1 = l.toArray.size by simp; omega]; exact hfree) (by rw [show (l.length - 1) + 1 = l.toArray.size by simp; omega]; exact hrd) hQ hy ?_
  rw [show (l.length - 1) + 1 = l.toArray.size by simp; omega]
  generalize ha1 : a.put oi.dst v = a1 at *
  have htl : (l.take n).length = n := by simp; omega
  obtain ⟨L, l1, l2, l3, l40, l4⟩ := chain_vs (l := l) (l.take n) 0 [] rfl (by simp) (fun j o hj => by omega) (fun j hj => by
    have hj' : j < n := by rw [htl] at hj; exact hj
    simp [hj']) h
  rw [htl] at l1 l3
  have hheads := heads_of hh
  have hlast : ∀ i, Lasts (L.getD i fun _ _ => True) := fun i => by
    rcases Nat.lt_or_ge i L.length with h' | h'
    · exact l2 _ (by simp [List.getElem?_eq_getElem h'])
    · rw [show L.getD i (fun _ _ => True) = fun _ _ => True by simp [List.getElem?_eq_none h']]
      exact fun _ _ _ _ _ => trivial
  have hgp : ∀ j, ((Array.replicate l.toArray.size false).setIfInBounds p true).getD j false = decide (j = p) := fun j => by
    by_cases hjp : j = p
    · subst hjp; rw [listed_set_self (by simp; omega)]; simp
    · rw [getD_set_ne false (Ne.symm hjp), getD_replicate_false]; simp [hjp]
  have inv0 : HeadInv .any l.toArray n ((Array.replicate l.toArray.size false).setIfInBounds p true) := by
    refine ⟨by simp, fun j oj hoj hl e he hb => ?_, fun t ht0 ht => ?_⟩
    · rw [hgp] at hl
      have hjp : j = p := by simpa using hl
      subst hjp
      obtain ⟨_, o', ho', hall⟩ := mem_ready.1 (show j ∈ Region.ready .any l.toArray (Array.replicate l.toArray.size false) by simpa using hrd)
      have : o' = oj := Option.some.inj (ho'.symm.trans hoj)
      subst this
      exact getD_set_true (hall e he hb)
    · rw [getD_set_ne true (by omega)]
      exact getD_in (by simpa using ht) (getD_replicate_false _ _)
  obtain ⟨op, dp, hdp⟩ := hheads p hpn
  have hoip : op = oi := Option.some.inj (hdp.op.symm.trans hi)
  subst hoip
  have h0 : HI l.toArray n (fun i => L.getD i fun _ _ => True) a1 w.drew ((Array.replicate l.toArray.size false).setIfInBounds p true) a1 w.drew :=
    ⟨inv0, Gr.same _, rfl, rfl, fun i d hin hd hl => (by
      rw [hgp] at hl
      have hip : i = p := by simpa using hl
      subst hip
      have hdd : d = dp := by rw [hdp.op] at hd; exact Option.some.inj (hd.symm.trans hdp.dst)
      subst hdd
      have hs := hdp.lt
      have hv : a1.tmps.getD d undef = v := by
        rw [← ha1, hdp.dst]
        rw [← ha1, hdp.dst] at hs
        have hs' : d < a.tmps.size := by simpa [Act.put] using hs
        simp [Act.put, hs']
      rw [hv]; exact l40), fun _ _ => rfl⟩
  have hopen : open_ n ((Array.replicate l.toArray.size false).setIfInBounds p true) = n - 1 := by
    have h1 := open_set (n := n) (listed := Array.replicate l.toArray.size false) hpn (by simp; omega) (getD_replicate_false _ _)
    have h2 : open_ n (Array.replicate l.toArray.size false) = n := by
      unfold open_
      rw [List.filter_eq_self.2 fun i _ => by rw [getD_replicate_false]; rfl]
      simp
    omega
  have := wpAny_of_chain4 p (P := P) (Q := Q) (n := n) (Vs := fun i => L.getD i fun _ _ => True) (a := a1) (w := w.drew) (l := l) hlast (Pan := fun c W => ∀ a', a'.defers = a1.defers → Q (.panic c) a' W) L hheads hnl
    (fun listed inv hlp hun t htn hr => by
      obtain ⟨i, hi, hx⟩ := hun
      exact tail_waitsL hsink hchain inv _ i rfl hi (fun e => by subst e; rw [getD_both hx] at hlp; cases hlp) hx t htn hr)
    (by simpa using hseq) (fun _ => rfl) (fun i o hi ho => l3 i o (by omega) ho) (fun c W hp a' hd => hp a' hd)
    (fun a' W hI => by
      have e : a' = lay l.toArray (fun i => a'.tmps.getD (((l.toArray[i]?).bind (·.dst)).getD 0) undef) n a1 := by
        have ed : a'.defers = (lay l.toArray (fun i => a'.tmps.getD (((l.toArray[i]?).bind (·.dst)).getD 0) undef) n a1).defers := by rw [lay_defers]; exact hI.defers
        have et : a'.tmps = (lay l.toArray (fun i => a'.tmps.getD (((l.toArray[i]?).bind (·.dst)).getD 0) undef) n a1).tmps := by
          refine Array.ext (by rw [lay_size]; exact hI.size) fun t h1 h2 => ?_
          have h3 : t < a1.tmps.size := by rw [← hI.size]; exact h1
          refine Option.some.inj ?_
          rw [← Array.getElem?_eq_getElem h1, ← Array.getElem?_eq_getElem h2]
          cases hf : fills l.toArray n t with
          | none =>
            rw [lay_other _ n a1 fun i hi => fills_none hf i hi]
            have := hI.rest t fun i hi hd => absurd hd (fills_none hf i hi)
            simp only [Array.getD_eq_getD_getElem?, Array.getElem?_eq_getElem h1, Array.getElem?_eq_getElem h3, Option.getD_some] at this
            rw [Array.getElem?_eq_getElem h1, Array.getElem?_eq_getElem h3, this]
          | some k =>
            obtain ⟨hk, hd⟩ := fills_some hf
            obtain ⟨o, d, hdk⟩ := hheads k hk
            have hdt : d = t := by rw [hdk.op] at hd; exact Option.some.inj (hdk.dst.symm.trans hd)
            subst hdt
            rw [lay_at _ n a1 hk hd h3 hdk.only, hd]
            simp only [Option.getD_some, Array.getD_eq_getD_getElem?, Array.getElem?_eq_getElem h1]
        cases a'; cases hlay : lay l.toArray _ n a1
        rw [hlay] at ed et
        simp only at ed et
        rw [ed, et]
      rw [e]
      refine l4 _ W ((Gr.drew w).tr hI.grow) fun i hi => ?_
      obtain ⟨o, d, hd⟩ := hheads i hi
      have hdd : (l.toArray[i]?).bind (·.dst) = some d := by rw [hd.op]; exact hd.dst
      have := hI.done i d hi hdd (by simp [half, hi, show i < l.length by omega])
      simp only [hdd, Option.getD_some]
      exact this)
    (n - 1) ((Array.replicate l.toArray.size false).setIfInBounds p true) a1 w.drew hopen h0 (by rw [hgp]; simp)
  rw [show n - 1 + (l.length - n) = l.length - 1 by omega] at this
  exact this
theorem region4 {id : Nat} {l : List Oper} (n p : Nat) {oi : Oper} {v : Value} (hm : P.follows .mixedOrders = true) (hi : l.toArray[p]? = some oi) (hsel : Region.noSelect l.toArray = true)
    (hfree : Region.free .any l.toArray (Array.replicate l.toArray.size false) p = true) (hrd : (Region.ready .any l.toArray (Array.replicate l.toArray.size false)).contains p = true)
    (hQ : ∀ c a w, Q (.panic c) (a.put oi.dst v) w → Q (.panic c) a w) (hy : Yields P l.toArray oi v a)
    (hok : earlyOk l.toArray n p (a.put oi.dst v).tmps.size = true)
    (h : Chain2 P l.toArray n (a.put oi.dst v).tmps w.drew (fun c W => ∀ a', a'.defers = (a.put oi.dst v).defers → Q (.panic c) a' W) (l.take n) 0 [] fun L =>
      (L.getD (n - 1 - p) fun _ _ => True) v w.drew ∧ ∀ (vs : Nat → Value) (W : World), Gr w W → Holds L n vs W → wpList P l.toArray Q (l.drop n) (lay l.toArray vs n (a.put oi.dst v)) W) :
    (Code.region id l.toArray true).wp P Q a w := by
  have hok0 := hok
  simp only [earlyOk, Bool.and_eq_true, decide_eq_true_eq] at hok0
  have hn : n ≤ l.length := by have := hok0.1.1.1.1.1; simp at this; omega
  have hpn : p < n := hok0.1.1.1.1.2
  refine region_chain4 n p hm hi hsel hfree hrd hQ hy hok ?_
  have h1 := Chain2.chain (k := 0) (Ls := []) rfl (Chain2.len (k := 0) (Ls := []) rfl h)
  have hmono : ∀ {f g : List (Value → World → Prop) → Prop}, (∀ L, f L → g L) → ∀ (r : List Oper) (Ls : List (Value → World → Prop)), Chain P l.toArray n (a.put oi.dst v).tmps w.drew (fun c W => ∀ a', a'.defers = (a.put oi.dst v).defers → Q (.panic c) a' W) r Ls f → Chain P l.toArray n (a.put oi.dst v).tmps w.drew (fun c W => ∀ a', a'.defers = (a.put oi.dst v).defers → Q (.panic c) a' W) r Ls g := by
    intro f g hfg r
    induction r with
    | nil => intro Ls hc; exact hfg _ hc
    | cons o r ih => intro Ls ⟨V, hV, hs, hr⟩; exact ⟨V, hV, hs, ih _ hr⟩
  refine hmono (fun L hL => ?_) _ _ h1
  obtain ⟨hlen, hv0, hf⟩ := hL
  have hl : L.reverse.length = n := by rw [hlen]; simp; omega
  have hl' : L.length = n := by simpa using hl
  refine ⟨?_, ?_⟩
  · have e : L.reverse.getD (n - 1 - p) (fun _ _ => True) = L.getD p (fun _ _ => True) := by
      simp only [List.getD_eq_getElem?_getD]
      rw [List.getElem?_reverse (by omega)]
      congr 2
      omega
    rw [← e]; exact hv0
  intro vs W hg hv
  refine hf vs W hg ?_
  have := Holds.of (Ls := L.reverse) (vs := vs) (W := W) fun i hi => by
    rw [List.reverse_reverse]; exact hv i (by omega)
  rwa [hl] at this
end
end Go.Proofs.Ytjlaoiimbhlafaa
namespace Go.Proofs.Ytjlaoiimbhlafaa
open Go.RowKit

section
variable {P : Program} {ops : Array Oper} {Q : Exit → Act → World → Prop} {md : Region.Mode} {n p : Nat} {Vs : Nat → Value → World → Prop} {a a' : Act} {w W W' : World} {listed : Array Bool}

/-- The first n, one after the other; p has come up; the others have not. -/
structure PInv (ops : Array Oper) (n p : Nat) (listed : Array Bool) : Prop where
  size : listed.size = ops.size
  closed : ∀ j oj, ops[j]? = some oj → listed.getD j false = true → ∀ e ∈ oj.after, Region.binds .any e = true → listed.getD e.on false = true
  tail : ∀ t, n ≤ t → t < ops.size → t ≠ p → listed.getD t true = false
  took : listed.getD p false = true

theorem PInv.set {i : Nat} (inv : PInv ops n p listed) (hi : i ∈ Region.ready .any ops listed) (hin : i < n) : PInv ops n p (listed.setIfInBounds i true) := by
  obtain ⟨_, oi, hoi, hall⟩ := mem_ready.1 hi
  refine ⟨by simp [inv.size], fun j oj hj hl e he hb => ?_, fun t ht ht' hp => by rw [getD_set_ne true (by omega)]; exact inv.tail t ht ht' hp, getD_set_true inv.took⟩
  by_cases hij : i = j
  · subst hij
    have : oj = oi := Option.some.inj (hj.symm.trans hoi)
    subst this
    exact getD_set_true (hall e he hb)
  · rw [getD_set_ne false hij] at hl
    exact getD_set_true (inv.closed j oj hj hl e he hb)

/-- Each later one of the tail waits for an earlier one. -/
def chainP (ops : Array Oper) (n p : Nat) : Bool :=
  (List.range ops.size).all fun t => decide (t ≤ n) || decide (t = p) || (List.range t).any fun s => decide (n ≤ s) && decide (s ≠ p) && Region.waitsFor .any ops t s

theorem tailP {ops : Array Oper} {n p : Nat} {listed : Array Bool} (hs : Region.sinkB .any ops n = true) (hc : chainP ops n p = true) (hn : n < ops.size) (hp : n < p) (inv : PInv ops n p listed) :
    ∀ (d i : Nat), n - i = d → i < n → listed.getD i true = false → ∀ t, n ≤ t → t ∉ Region.ready .any ops listed := by
  intro d
  induction d using Nat.strongRecOn with
  | _ d ih =>
    intro i hd hi hun t ht hr
    obtain ⟨h0, ot, hot, hall⟩ := mem_ready.1 hr
    have htlt : t < ops.size := (Array.getElem?_eq_some_iff.1 hot).1
    by_cases htp : t = p
    · subst htp
      have := inv.took
      rw [getD_both h0] at this
      cases this
    by_cases htn : t = n
    · subst htn
      have h1 := List.all_eq_true.1 hs i (List.mem_range.2 hi)
      obtain ⟨j, hj, hj2⟩ := List.any_eq_true.1 h1
      simp only [Bool.and_eq_true, decide_eq_true_eq] at hj2
      obtain ⟨oj, hoj, e, he, hb, hon⟩ := Region.waitsFor_spec hj2.2
      have hjle : j ≤ t := by have := List.mem_range.1 hj; omega
      by_cases hjt : j = t
      · subst hjt
        have : oj = ot := Option.some.inj (hoj.symm.trans hot)
        subst this
        have h2 := hall e he hb
        rw [hon, getD_both hun] at h2
        cases h2
      · cases hl : listed.getD j false with
        | true =>
          have h2 := inv.closed j oj hoj hl e he hb
          rw [hon, getD_both hun] at h2
          cases h2
        | false =>
          have hjs : j < listed.size := by rw [inv.size]; omega
          exact ih (t - j) (by omega) j rfl (by omega) (getD_in hjs hl) t (Nat.le_refl _) hr
    · have h1 := List.all_eq_true.1 hc t (List.mem_range.2 htlt)
      simp only [Bool.or_eq_true, decide_eq_true_eq] at h1
      rcases h1 with (h1 | h1) | h1
      · omega
      · exact htp h1
      · obtain ⟨s, hs1, hs2⟩ := List.any_eq_true.1 h1
        simp only [Bool.and_eq_true, decide_eq_true_eq] at hs2
        obtain ⟨o', ho', e, he, hb, hon⟩ := Region.waitsFor_spec hs2.2
        have : o' = ot := Option.some.inj (ho'.symm.trans hot)
        subst this
        have h2 := hall e he hb
        have hst := List.mem_range.1 hs1
        rw [hon, getD_both (inv.tail s hs2.1.1 (by omega) hs2.1.2)] at h2
        cases h2

/-- These come up in just this order. -/
def seqL (ops : Array Oper) : List Nat → Array Bool → Bool
  | [], listed => (Region.ready .any ops listed).isEmpty
  | k :: ks, listed => decide (Region.ready .any ops listed = [k]) && seqL ops ks (listed.setIfInBounds k true)

theorem wpAny_of_seqL : ∀ (js : List Nat) (listed : Array Bool) (a : Act) (w : World), seqL ops js listed = true → wpList P ops Q (js.filterMap fun j => ops[j]?) a w → wpAny P .any ops Q js.length listed a w
  | [], _, _, _, hB, h => ⟨by simpa [seqL] using hB, h⟩
  | k :: js, listed, a, w, hB, h => by
    simp only [seqL, Bool.and_eq_true, decide_eq_true_eq] at hB
    refine ⟨fun h1 => (by rw [hB.1] at h1; cases h1), fun i hi => ?_⟩
    have hi0 := hi
    rw [hB.1] at hi
    have hik : i = k := by simpa using hi
    subst hik
    obtain ⟨_, o, ho, _⟩ := mem_ready.1 hi0
    rw [List.filterMap_cons_some ho] at h
    have hw : wpOp P ops Q i (wpList P ops Q (js.filterMap fun j => ops[j]?)) a w := by unfold wpOp; simp only [ho]; exact h
    exact wpOp_mono (fun a' w' h' => wpAny_of_seqL js _ a' w' hB.2 h') hw

def halfP (n p size : Nat) : Array Bool := ((List.range size).map fun i => decide (i < n) || decide (i = p)).toArray

structure HP (ops : Array Oper) (n p : Nat) (Vs : Nat → Value → World → Prop) (a : Act) (w : World) (listed : Array Bool) (a' : Act) (W : World) : Prop where
  inv : PInv ops n p listed
  grow : Gr w W
  defers : a'.defers = a.defers
  size : a'.tmps.size = a.tmps.size
  done : ∀ i d, i < n → (ops[i]?).bind (·.dst) = some d → listed.getD i false = true → Vs i (a'.tmps.getD d undef) W
  rest : ∀ t, (∀ i, i < n → (ops[i]?).bind (·.dst) = some t → listed.getD i false = false) → a'.tmps.getD t undef = a.tmps.getD t undef

theorem HP.set (h : HP ops n p Vs a w listed a' W) (hl : ∀ i, Lasts (Vs i)) {i d : Nat} {o : Oper} (hd : HeadOk ops n a.tmps.size i o d) (hin : i < n) (hr : i ∈ Region.ready .any ops listed) {v : Value} (hv : Vs i v W') (hg : Gr W W') :
    HP ops n p Vs a w (listed.setIfInBounds i true) (a'.put (some d) v) W' := by
  have his : i < listed.size := by
    rw [h.inv.size]; exact (Array.getElem?_eq_some_iff.1 hd.op).1
  have hdd : (ops[i]?).bind (·.dst) = some d := by rw [hd.op]; exact hd.dst
  refine ⟨h.inv.set hr hin, h.grow.tr hg, h.defers, by simpa [Act.put] using h.size, fun j e hj hje hl' => ?_, fun t ht => ?_⟩
  · by_cases hij : i = j
    · subst hij
      have : d = e := Option.some.inj (hdd.symm.trans hje)
      subst this
      have hs : d < a'.tmps.size := by rw [h.size]; exact hd.lt
      simpa [Act.put, hs] using hv
    · rw [getD_set_ne false hij] at hl'
      have hne : d ≠ e := fun e' => hij (hd.only j hj (by rw [hje, e'])).symm
      have := hl j _ _ _ (h.done j e hj hje hl') hg
      simpa [Act.put, Array.getElem?_setIfInBounds_ne hne] using this
  · have hne : d ≠ t := fun e => by
      have := ht i hin (by rw [hdd, e])
      rw [listed_set_self his] at this
      cases this
    have := h.rest t fun j hj hjt => by
      have h1 := ht j hj hjt
      by_cases hij : i = j
      · subst hij; exact absurd (Option.some.inj (hdd.symm.trans hjt)) hne
      · rwa [getD_set_ne false hij] at h1
    simpa [Act.put, Array.getElem?_setIfInBounds_ne hne] using this

theorem HP.step (h : HP ops n p Vs a w listed a' W) (hl : ∀ i, Lasts (Vs i)) {L : List (Value → World → Prop)} {Pan : List PanicEntry → World → Prop} {i d : Nat} {o : Oper} (hd : HeadOk ops n a.tmps.size i o d) (hin : i < n) (hr : i ∈ Region.ready .any ops listed)
    (hL : ∀ j, j < i → L.getD j (fun _ _ => True) = Vs j) (hs : Step P ops n a.tmps w Pan L o (Vs i))
    (hP : ∀ c W, Pan c W → ∀ a', a'.defers = a.defers → Q (.panic c) a' W) :
    wpOp P ops Q i (HP ops n p Vs a w (listed.setIfInBounds i true)) a' W := by
  obtain ⟨_, oi, hoi, hall⟩ := mem_ready.1 hr
  have : oi = o := Option.some.inj (hoi.symm.trans hd.op)
  subst this
  have hf : Facts ops n L a.tmps a'.eval W (looks ops oi) := Facts.mk fun t ht => by
    unfold Fact
    cases hfl : fills ops n t with
    | none =>
      exact h.rest t fun j hj hjt => absurd hjt (fills_none hfl j hj)
    | some j =>
      obtain ⟨hjn, hjd⟩ := fills_some hfl
      obtain ⟨hji, hw⟩ := hd.sees t ht j hfl
      obtain ⟨oj, hoj, e, he, hb, hon⟩ := Region.waitsFor_spec hw
      have : oj = oi := Option.some.inj (hoj.symm.trans hd.op)
      subst this
      have h1 := hall e he hb
      rw [hon] at h1
      have h2 := h.done j t hjn hjd h1
      simp only [hL j hji]
      exact h2
  obtain ⟨s1, s2⟩ := hs a'.eval W (Plain.eval a') h.grow hf
  unfold wpOp
  simp only [hd.op]
  by_cases hw : Region.wanted oi (yielded ops a'.tmps) = true
  · rw [if_pos hw]
    refine .inl ?_
    have h1 := s1 (lets_of_wanted.1 hw)
    unfold Oper.wp
    have key : ∀ v W', Vs i v W' → Gr W W' → HP ops n p Vs a w (listed.setIfInBounds i true) (a'.put (some d) v) W' := fun v W' hv hg => h.set hl hd hin hr hv hg
    cases hrun : (execOp a'.eval oi).run P W with
    | ok nx w' =>
      rw [hrun] at h1
      cases nx <;> simp only [Gives] at h1 <;> simp only [Oper.upon, hd.dst]
      case value v => exact key _ _ h1.1 h1.2
      case skip => exact key _ _ h1.1 h1.2
      case enter f args =>
        refine h1.2.mono fun e w'' he => ?_
        cases e with
        | returned v => exact key _ _ he.1 (h1.1.tr he.2)
        | panicked c => exact hP _ _ he _ h.defers
        | outgrown => exact he.elim
    | halt x w' =>
      rw [hrun] at h1
      cases x <;> simp only [Gives] at h1
      case panic v => exact hP _ _ h1 _ h.defers
  · rw [if_neg hw, hd.dst]
    exact h.set hl hd hin hr (s2 fun hl' => hw (lets_of_wanted.2 hl')) (Gr.same W)

theorem wpAny_of_chainP {l : List Oper} {js : List Nat} (hl : ∀ i, Lasts (Vs i)) {Pan : List PanicEntry → World → Prop} (L : List (Value → World → Prop))
    (hheads : ∀ k, k < n → ∃ o d, HeadOk l.toArray n a.tmps.size k o d) (hnl : n < l.length) (hp : n < p)
    (hsink : Region.sinkB .any l.toArray n = true) (hchain : chainP l.toArray n p = true)
    (hseq : seqL l.toArray js (halfP n p l.length) = true)
    (hL : ∀ j, L.getD j (fun _ _ => True) = Vs j) (hs : ∀ i o, i < n → l.toArray[i]? = some o → Step P l.toArray n a.tmps w Pan (L.take i) o (Vs i))
    (hP : ∀ c W, Pan c W → ∀ a', a'.defers = a.defers → Q (.panic c) a' W)
    (hfin : ∀ a' W, HP l.toArray n p Vs a w (halfP n p l.length) a' W → wpList P l.toArray Q (js.filterMap fun j => l.toArray[j]?) a' W) :
    ∀ (c : Nat) (listed : Array Bool) (a' : Act) (W : World), open_ n listed = c → HP l.toArray n p Vs a w listed a' W → wpAny P .any l.toArray Q (c + js.length) listed a' W := by
  intro c
  induction c with
  | zero =>
    intro listed a' W hc h
    have he : listed = halfP n p l.length := by
      refine Array.ext (by rw [h.inv.size]; simp [halfP]) fun i h1 h2 => ?_
      have h1' : i < l.length := by have := h.inv.size; simp at this; omega
      by_cases hin : i < n
      · have := open_zero hc i hin
        simp only [Array.getD_eq_getD_getElem?, Array.getElem?_eq_getElem h1, Option.getD_some] at this
        simp [halfP, this, hin]
      · by_cases hip : i = p
        · subst hip
          have := h.inv.took
          simp only [Array.getD_eq_getD_getElem?, Array.getElem?_eq_getElem h1, Option.getD_some] at this
          simp [halfP, this]
        · have := h.inv.tail i (by omega) (by simpa using h1') hip
          simp only [Array.getD_eq_getD_getElem?, Array.getElem?_eq_getElem h1, Option.getD_some] at this
          simp [halfP, this, hin, hip]
    subst he
    have h1 := wpAny_of_seqL (P := P) (Q := Q) (ops := l.toArray) js (halfP n p l.length) a' W hseq (hfin a' W h)
    simpa using h1
  | succ c ih =>
    intro listed a' W hc h
    rw [show c + 1 + js.length = (c + js.length) + 1 by omega]
    have hsz : listed.size = l.length := by simpa using h.inv.size
    have hex : ∃ i, i < n ∧ listed.getD i false = false := by
      apply Classical.byContradiction
      intro hno
      have : open_ n listed = 0 := by
        unfold open_
        rw [List.length_eq_zero_iff, List.filter_eq_nil_iff]
        intro i hi
        have hi' := List.mem_range.1 hi
        cases hx : listed.getD i false with
        | true => simp
        | false => exact absurd ⟨i, hi', hx⟩ hno
      omega
    have hun : ∃ i, i < n ∧ listed.getD i true = false := by
      obtain ⟨i, hi, hx⟩ := hex
      exact ⟨i, hi, getD_in (by omega) hx⟩
    have hready : Region.ready .any l.toArray listed ≠ [] := by
      obtain ⟨i, hi, hx, hleast⟩ := exists_first n hex
      obtain ⟨o, d, hd⟩ := hheads i hi
      have : i ∈ Region.ready .any l.toArray listed := by
        refine mem_ready.2 ⟨getD_in (by omega) hx, o, hd.op, fun e he hb => ?_⟩
        have := hleast e.on (hd.early e he hb)
        simpa using this
      intro h0
      rw [h0] at this
      cases this
    refine ⟨fun h0 => absurd h0 hready, fun i hi => ?_⟩
    have hin : i < n := by
      rcases Nat.lt_or_ge i n with h' | h'
      · exact h'
      · obtain ⟨j, hj, hx⟩ := hun
        exact absurd hi (tailP hsink hchain (by simpa using hnl) hp h.inv _ j rfl hj hx i h')
    obtain ⟨o, d, hd⟩ := hheads i hin
    have hLi : ∀ j, j < i → (L.take i).getD j (fun _ _ => True) = Vs j := fun j hj => by
      rw [← hL j]
      simp [hj]
    refine wpOp_mono (fun a'' W'' h' => ih _ a'' W'' ?_ h') (h.step hl hd hin hi hLi (hs i o hin hd.op) hP)
    have h1 := open_set (n := n) hin (by omega : i < listed.size) (getD_both (mem_ready.1 hi).1)
    omega

def regionP (ops : Array Oper) (n p size : Nat) (js : List Nat) : Bool :=
  decide (n < ops.size) && decide (n < p) && decide (p < ops.size) && decide (n + js.length + 1 = ops.size) && (List.range n).all (fun k => headOk ops n k size) && Region.sinkB .any ops n && chainP ops n p && seqL ops js (halfP n p ops.size)

/-- A region whose order is open: operation p is taken first; then the first n in the text's order; then the others, one after the other. -/
theorem region3 {id : Nat} {l : List Oper} (n p : Nat) (js : List Nat) {oi : Oper} {v : Value} (hm : P.follows .mixedOrders = true) (hi : l.toArray[p]? = some oi) (hsel : Region.noSelect l.toArray = true)
    (hfree : Region.free .any l.toArray (Array.replicate l.toArray.size false) p = true) (hrd : (Region.ready .any l.toArray (Array.replicate l.toArray.size false)).contains p = true)
    (hQ : ∀ c a w, Q (.panic c) (a.put oi.dst v) w → Q (.panic c) a w) (hy : Yields P l.toArray oi v a)
    (hok : regionP l.toArray n p (a.put oi.dst v).tmps.size js = true)
    (h : Chain2 P l.toArray n (a.put oi.dst v).tmps w.drew (fun c W => ∀ a', a'.defers = (a.put oi.dst v).defers → Q (.panic c) a' W) (l.take n) 0 [] fun L =>
      ∀ (vs : Nat → Value) (W : World), Gr w W → Holds L n vs W → wpList P l.toArray Q (js.filterMap fun j => l.toArray[j]?) (lay l.toArray vs n (a.put oi.dst v)) W) :
    (Code.region id l.toArray true).wp P Q a w := by
  refine wp_region_any hm ?_
  simp only [regionP, Bool.and_eq_true, decide_eq_true_eq] at hok
  obtain ⟨⟨⟨⟨⟨⟨⟨hn, hp⟩, hps⟩, hjs⟩, hh⟩, hsink⟩, hchain⟩, hseq⟩ := hok
  have hnl : n < l.length := by simpa using hn
  rw [show l.toArray.size = (n + js.length) + 1 by omega]
  refine wpAny_take hi hsel (by rw [hjs]; exact hfree) (by rw [hjs]; exact hrd) hQ hy ?_
  rw [show (n + js.length) + 1 = l.toArray.size by omega]
  generalize ha1 : a.put oi.dst v = a1 at *
  have h1 := Chain2.chain (k := 0) (Ls := []) rfl (Chain2.len (k := 0) (Ls := []) rfl h)
  have htl : (l.take n).length = n := by simp; omega
  obtain ⟨L, l1, l2, l3, l4, l5⟩ := chain_vs (l := l) (l.take n) 0 [] rfl (by simp) (fun j o hj => by omega) (fun j hj => by
    have hj' : j < n := by rw [htl] at hj; exact hj
    simp [hj']) h1
  rw [htl] at l1 l3
  have hheads := heads_of hh
  have hlast : ∀ i, Lasts (L.getD i fun _ _ => True) := fun i => by
    rcases Nat.lt_or_ge i L.length with h' | h'
    · exact l2 _ (by simp [List.getElem?_eq_getElem h'])
    · rw [show L.getD i (fun _ _ => True) = fun _ _ => True by simp [List.getElem?_eq_none h']]
      exact fun _ _ _ _ _ => trivial
  have hgp : ∀ j, ((Array.replicate l.toArray.size false).setIfInBounds p true).getD j false = decide (j = p) := fun j => by
    by_cases hjp : j = p
    · subst hjp; rw [listed_set_self (by simpa using hps)]; simp
    · rw [getD_set_ne false (Ne.symm hjp), getD_replicate_false]; simp [hjp]
  have inv0 : PInv l.toArray n p ((Array.replicate l.toArray.size false).setIfInBounds p true) := by
    refine ⟨by simp, fun j oj hoj hl e he hb => ?_, fun t _ ht hne => ?_, by rw [hgp]; simp⟩
    · rw [hgp] at hl
      have hjp : j = p := by simpa using hl
      subst hjp
      obtain ⟨_, o', ho', hall⟩ := mem_ready.1 (show j ∈ Region.ready .any l.toArray (Array.replicate l.toArray.size false) by simpa using hrd)
      have : o' = oj := Option.some.inj (ho'.symm.trans hoj)
      subst this
      exact getD_set_true (hall e he hb)
    · rw [getD_set_ne true (Ne.symm hne)]
      exact getD_in (by simpa using ht) (getD_replicate_false _ _)
  have h0 : HP l.toArray n p (fun i => L.getD i fun _ _ => True) a1 w.drew ((Array.replicate l.toArray.size false).setIfInBounds p true) a1 w.drew :=
    ⟨inv0, Gr.same _, rfl, rfl, fun i d hin _ hl => (by rw [hgp] at hl; have : i = p := (by simpa using hl); omega), fun _ _ => rfl⟩
  have hopen : open_ n ((Array.replicate l.toArray.size false).setIfInBounds p true) = n := by
    unfold open_
    rw [List.filter_eq_self.2 fun i hi => by
      have hin := List.mem_range.1 hi
      have hne : i ≠ p := by omega
      rw [hgp]; simp [hne]]
    simp
  have := wpAny_of_chainP (P := P) (Q := Q) (n := n) (p := p) (js := js) (Vs := fun i => L.getD i fun _ _ => True) (a := a1) (w := w.drew) (l := l) hlast (Pan := fun c W => ∀ a', a'.defers = a1.defers → Q (.panic c) a' W) L hheads hnl hp hsink hchain
    (by simpa using hseq) (fun _ => rfl) (fun i o hi ho => l3 i o (by omega) ho) (fun c W hp a' hd => hp a' hd)
    (fun a' W hI => by
      have e : a' = lay l.toArray (fun i => a'.tmps.getD (((l.toArray[i]?).bind (·.dst)).getD 0) undef) n a1 := by
        have ed : a'.defers = (lay l.toArray (fun i => a'.tmps.getD (((l.toArray[i]?).bind (·.dst)).getD 0) undef) n a1).defers := by rw [lay_defers]; exact hI.defers
        have et : a'.tmps = (lay l.toArray (fun i => a'.tmps.getD (((l.toArray[i]?).bind (·.dst)).getD 0) undef) n a1).tmps := by
          refine Array.ext (by rw [lay_size]; exact hI.size) fun t h1 h2 => ?_
          have h3 : t < a1.tmps.size := by rw [← hI.size]; exact h1
          refine Option.some.inj ?_
          rw [← Array.getElem?_eq_getElem h1, ← Array.getElem?_eq_getElem h2]
          cases hf : fills l.toArray n t with
          | none =>
            rw [lay_other _ n a1 fun i hi => fills_none hf i hi]
            have := hI.rest t fun i hi hd => absurd hd (fills_none hf i hi)
            simp only [Array.getD_eq_getD_getElem?, Array.getElem?_eq_getElem h1, Array.getElem?_eq_getElem h3, Option.getD_some] at this
            rw [Array.getElem?_eq_getElem h1, Array.getElem?_eq_getElem h3, this]
          | some k =>
            obtain ⟨hk, hd⟩ := fills_some hf
            obtain ⟨o, d, hdk⟩ := hheads k hk
            have hdt : d = t := by rw [hdk.op] at hd; exact Option.some.inj (hdk.dst.symm.trans hd)
            subst hdt
            rw [lay_at _ n a1 hk hd h3 hdk.only, hd]
            simp only [Option.getD_some, Array.getD_eq_getD_getElem?, Array.getElem?_eq_getElem h1]
        cases a'; cases hlay : lay l.toArray _ n a1
        rw [hlay] at ed et
        simp only at ed et
        rw [ed, et]
      rw [e]
      have hl' : L.reverse.length = n := by rw [l4]; simp; omega
      refine l5 _ W ((Gr.drew w).tr hI.grow) ?_
      have hh := Holds.of (Ls := L.reverse) (vs := fun i => a'.tmps.getD (((l.toArray[i]?).bind (·.dst)).getD 0) undef) (W := W) fun i hi => by
        rw [List.reverse_reverse]
        have hin : i < n := by omega
        obtain ⟨o, d, hd⟩ := hheads i hin
        have hdd : (l.toArray[i]?).bind (·.dst) = some d := by rw [hd.op]; exact hd.dst
        have := hI.done i d hin hdd (by simp [halfP, hin, show i < l.length by omega])
        simp only [hdd, Option.getD_some]
        exact this
      rwa [hl'] at hh)
    n ((Array.replicate l.toArray.size false).setIfInBounds p true) a1 w.drew hopen h0
  exact this
end
end Go.Proofs.Ytjlaoiimbhlafaa
