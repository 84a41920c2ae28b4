import Derived.Test.YtjlaoiimbhlafaaP2
import Derived.Deep.QuietTactic
import Derived.BigQuiet
set_option linter.unusedVariables false
set_option linter.unusedSimpArgs false
namespace Go.Proofs.Ytjlaoiimbhlafaa
open Go.RowKit

/-- Nothing that is there turns but the number in the block A, which grows by at most i. -/
structure Dn (A i : Nat) (w W : World) : Prop where
  os : W.os = w.os
  tape : W.tape = w.tape
  output : W.output = w.output
  size : w.heap.size ≤ W.heap.size
  block : ∀ k, k < w.heap.size → k ≠ A → W.heap[k]? = w.heap[k]?
  cell : ∀ m : Int, Box w A [.int .i64 m] 3 → ∃ m' : Int, Box W A [.int .i64 m'] 3 ∧ m ≤ m' ∧ m' ≤ m + i
theorem Dn.same (A : Nat) (w : World) : Dn A 0 w w := ⟨rfl, rfl, rfl, Nat.le_refl _, fun _ _ _ => rfl, fun m h => ⟨m, h, Int.le_refl _, by omega⟩⟩
theorem Dn.le {A i j : Nat} {w W : World} (h : Dn A i w W) (hij : i ≤ j) : Dn A j w W := ⟨h.os, h.tape, h.output, h.size, h.block, fun m hm => by
  obtain ⟨m', a, b, c⟩ := h.cell m hm
  exact ⟨m', a, b, by omega⟩⟩
theorem Dn.tr {A i j : Nat} {a b c : World} (h : Dn A i a b) (k : Dn A j b c) : Dn A (i + j) a c := ⟨k.os.trans h.os, k.tape.trans h.tape, k.output.trans h.output, Nat.le_trans h.size k.size, fun x hx hA => (k.block x (Nat.lt_of_lt_of_le hx h.size) hA).trans (h.block x hx hA), fun m hm => by
  obtain ⟨m', a1, b1, c1⟩ := h.cell m hm
  obtain ⟨m'', a2, b2, c2⟩ := k.cell m' a1
  exact ⟨m'', a2, by omega, by omega⟩⟩
theorem Dn.of {A : Nat} {w W : World} (h : Gr w W) : Dn A 0 w W := ⟨h.os, h.tape, h.output, h.size, fun k hk _ => h.block k hk, fun m hm => ⟨m, hm.grow h, Int.le_refl _, by omega⟩⟩
theorem Dn.drew (A : Nat) (w : World) : Dn A 0 w w.drew := Dn.of (Gr.drew w)
/-- A block other than A stays. -/
theorem Dn.box {A i : Nat} {w W : World} (h : Dn A i w W) {b : Nat} {vs : List Value} {T : TypeId} (hb : Box w b vs T) (hA : b ≠ A) : Box W b vs T := by
  have := h.block b hb.lt hA
  unfold Box at *
  rw [this]; exact hb
theorem Dn.cells {A i : Nat} {w W : World} (h : Dn A i w W) : (∀ b o, b < w.heap.size → b ≠ A → W.cell? ⟨b, o, none⟩ = w.cell? ⟨b, o, none⟩) ∧ (∀ b o, b < w.heap.size → b ≠ A → W.frozen? ⟨b, o, none⟩ = w.frozen? ⟨b, o, none⟩) ∧ (∀ b, b < w.heap.size → b < W.heap.size) :=
  ⟨fun b _ hb hA => World.cell?_of_block (h.block b hb hA), fun b _ hb hA => World.frozen?_of_block (h.block b hb hA), fun _ hb => Nat.lt_of_lt_of_le hb h.size⟩
theorem Dn.below {A i B : Nat} {w0 w W : World} (h : Dn A i w W) (hb : Below B w0 w) (hB : B ≤ w.heap.size) (hA : B ≤ A) : Below B w0 W :=
  ⟨h.os.trans hb.os, h.tape.trans hb.tape, h.output.trans hb.output, Nat.le_trans hb.size h.size, fun k hk => (h.block k (Nat.lt_of_lt_of_le hk hB) (by omega)).trans (hb.block k hk)⟩
namespace Dv

def Lasts (A κ : Nat) (V : Value → World → Prop) : Prop := ∀ v W W', V v W → Dn A κ W W' → V v W'
theorem Lasts.eq {A κ : Nat} (c : Value) : Lasts A κ (fun v _ => v = c) := fun _ _ _ h _ => h

/-- What an operation does, of which its value alone is asked. -/
def Gives (A κ : Nat) (P : Program) (W : World) (V : Value → World → Prop) (Pan : List PanicEntry → World → Prop) : Result Next → Prop
  | .ok (.value v) w' => V v w' ∧ Dn A κ W w'
  | .ok .skip w' => V undef w' ∧ Dn A κ W w'
  | .ok (.enter f args) w' => Gr W w' ∧ Calls P f args w' fun e w'' => match e with
      | .returned v => V v w'' ∧ Dn A κ w' w''
      | .panicked c => Pan c w''
      | .outgrown => False
  | .halt (.panic v) w' => Pan [{ v, recovered := false }] w'
  | _ => False

section
variable {P : Program} {ops : Array Oper} {Q : Exit → Act → World → Prop} {md : Region.Mode} {A κ : Nat}

def Step (A κ : Nat) (P : Program) (ops : Array Oper) (n : Nat) (tm : Array Value) (w : World) (Pan : List PanicEntry → World → Prop) (Vs : List (Value → World → Prop)) (o : Oper) (V : Value → World → Prop) : Prop :=
  ∀ (ρ : Operand → Value) (W : World), Plain ρ → Dn A (κ * n) w W → Facts ops n Vs tm ρ W (looks ops o) →
    (Lets ops ρ o → Gives A κ P W V Pan ((execOp ρ o).run P W)) ∧ (¬ Lets ops ρ o → V undef W)

def Chain (A κ : Nat) (P : Program) (ops : Array Oper) (n : Nat) (tm : Array Value) (w : World) (Pan : List PanicEntry → World → Prop) : List Oper → List (Value → World → Prop) → (List (Value → World → Prop) → Prop) → Prop
  | [], Vs, fin => fin Vs
  | o :: r, Vs, fin => ∃ V, Lasts A κ V ∧ Step A κ P ops n tm w Pan Vs o V ∧ Chain A κ P ops n tm w Pan r (Vs ++ [V]) fin

structure HI (A κ : Nat) (ops : Array Oper) (n : Nat) (Vs : Nat → Value → World → Prop) (a : Act) (w : World) (listed : Array Bool) (a' : Act) (W : World) : Prop where
  inv : HeadInv .any ops n listed
  grow : ∃ i, i + open_ n listed ≤ n ∧ Dn A (κ * i) w W
  defers : a'.defers = a.defers
  size : a'.tmps.size = a.tmps.size
  done : ∀ i d, i < n → (ops[i]?).bind (·.dst) = some d → listed.getD i false = true → Vs i (a'.tmps.getD d undef) W
  rest : ∀ t, (∀ i, i < n → (ops[i]?).bind (·.dst) = some t → listed.getD i false = false) → a'.tmps.getD t undef = a.tmps.getD t undef

variable {n : Nat} {Vs : Nat → Value → World → Prop} {a a' : Act} {w W W' : World} {listed : Array Bool}

theorem HI.set (h : HI A κ ops n Vs a w listed a' W) (hl : ∀ i, Lasts A κ (Vs i)) {i d : Nat} {o : Oper} (hd : HeadOk ops n a.tmps.size i o d) (hin : i < n) (hr : i ∈ Region.ready .any ops listed) {v : Value} (hv : Vs i v W') (hg : Dn A κ W W') :
    HI A κ ops n Vs a w (listed.setIfInBounds i true) (a'.put (some d) v) W' := by
  have his : i < listed.size := by
    rw [h.inv.size]; exact (Array.getElem?_eq_some_iff.1 hd.op).1
  have hdd : (ops[i]?).bind (·.dst) = some d := by rw [hd.op]; exact hd.dst
  refine ⟨h.inv.set hr hin, (by
    obtain ⟨c, hc, hw⟩ := h.grow
    have ho := open_set (n := n) hin his (getD_both (mem_ready.1 hr).1)
    exact ⟨c + 1, by omega, by have := hw.tr hg; rwa [← Nat.mul_succ] at this⟩), h.defers, by simpa [Act.put] using h.size, fun j e hj hje hl' => ?_, fun t ht => ?_⟩
  · by_cases hij : i = j
    · subst hij
      have : d = e := Option.some.inj (hdd.symm.trans hje)
      subst this
      have hs : d < a'.tmps.size := by rw [h.size]; exact hd.lt
      simpa [Act.put, hs] using hv
    · rw [getD_set_ne false hij] at hl'
      have hne : d ≠ e := fun e' => hij (hd.only j hj (by rw [hje, e'])).symm
      have := hl j _ _ _ (h.done j e hj hje hl') hg
      simpa [Act.put, Array.getElem?_setIfInBounds_ne hne] using this
  · have hne : d ≠ t := fun e => by
      have := ht i hin (by rw [hdd, e])
      rw [listed_set_self his] at this
      cases this
    have := h.rest t fun j hj hjt => by
      have h1 := ht j hj hjt
      by_cases hij : i = j
      · subst hij; exact absurd (Option.some.inj (hdd.symm.trans hjt)) hne
      · rwa [getD_set_ne false hij] at h1
    simpa [Act.put, Array.getElem?_setIfInBounds_ne hne] using this

theorem HI.step (h : HI A κ ops n Vs a w listed a' W) (hl : ∀ i, Lasts A κ (Vs i)) {L : List (Value → World → Prop)} {Pan : List PanicEntry → World → Prop} {i d : Nat} {o : Oper} (hd : HeadOk ops n a.tmps.size i o d) (hin : i < n) (hr : i ∈ Region.ready .any ops listed)
    (hL : ∀ j, j < i → L.getD j (fun _ _ => True) = Vs j) (hs : Step A κ P ops n a.tmps w Pan L o (Vs i))
    (hP : ∀ c W, Pan c W → ∀ a', a'.defers = a.defers → Q (.panic c) a' W) :
    wpOp P ops Q i (HI A κ ops n Vs a w (listed.setIfInBounds i true)) a' W := by
  obtain ⟨_, oi, hoi, hall⟩ := mem_ready.1 hr
  have : oi = o := Option.some.inj (hoi.symm.trans hd.op)
  subst this
  have hf : Facts ops n L a.tmps a'.eval W (looks ops oi) := Facts.mk fun t ht => by
    unfold Fact
    cases hfl : fills ops n t with
    | none =>
      exact h.rest t fun j hj hjt => absurd hjt (fills_none hfl j hj)
    | some j =>
      obtain ⟨hjn, hjd⟩ := fills_some hfl
      obtain ⟨hji, hw⟩ := hd.sees t ht j hfl
      obtain ⟨oj, hoj, e, he, hb, hon⟩ := Region.waitsFor_spec hw
      have : oj = oi := Option.some.inj (hoj.symm.trans hd.op)
      subst this
      have h1 := hall e he hb
      rw [hon] at h1
      have h2 := h.done j t hjn hjd h1
      simp only [hL j hji]
      exact h2
  obtain ⟨s1, s2⟩ := hs a'.eval W (Plain.eval a') (by
    obtain ⟨c, hc, hw⟩ := h.grow
    exact hw.le (Nat.mul_le_mul_left κ (by omega))) hf
  unfold wpOp
  simp only [hd.op]
  by_cases hw : Region.wanted oi (yielded ops a'.tmps) = true
  · rw [if_pos hw]
    refine .inl ?_
    have h1 := s1 (lets_of_wanted.1 hw)
    unfold Oper.wp
    have key : ∀ v W', Vs i v W' → Dn A κ W W' → HI A κ ops n Vs a w (listed.setIfInBounds i true) (a'.put (some d) v) W' := fun v W' hv hg => h.set hl hd hin hr hv hg
    cases hrun : (execOp a'.eval oi).run P W with
    | ok nx w' =>
      rw [hrun] at h1
      cases nx <;> simp only [Gives] at h1 <;> simp only [Oper.upon, hd.dst]
      case value v => exact key _ _ h1.1 h1.2
      case skip => exact key _ _ h1.1 h1.2
      case enter f args =>
        refine h1.2.mono fun e w'' he => ?_
        cases e with
        | returned v => exact key _ _ he.1 (by have := (Dn.of (A := A) h1.1).tr he.2; simpa using this)
        | panicked c => exact hP _ _ he _ h.defers
        | outgrown => exact he.elim
    | halt x w' =>
      rw [hrun] at h1
      cases x <;> simp only [Gives] at h1
      case panic v => exact hP _ _ h1 _ h.defers
  · rw [if_neg hw, hd.dst]
    exact h.set hl hd hin hr (s2 fun hl' => hw (lets_of_wanted.2 hl')) ((Dn.same A W).le (by omega))

theorem wpAny_of_chain {l : List Oper} (hl : ∀ i, Lasts A κ (Vs i)) {Pan : List PanicEntry → World → Prop} (L : List (Value → World → Prop))
    (hheads : ∀ k, k < n → ∃ o d, HeadOk l.toArray n a.tmps.size k o d) (hnl : n ≤ l.length)
    (htw : ∀ listed, HeadInv .any l.toArray n listed → (∃ i, i < n ∧ listed.getD i true = false) → ∀ t, n ≤ t → t ∉ Region.ready .any l.toArray listed)
    (hseq : Region.seqB .any l.toArray (l.length - n) n (half n l.length) = true)
    (hL : ∀ j, L.getD j (fun _ _ => True) = Vs j) (hs : ∀ i o, i < n → l.toArray[i]? = some o → Step A κ P l.toArray n a.tmps w Pan (L.take i) o (Vs i))
    (hP : ∀ c W, Pan c W → ∀ a', a'.defers = a.defers → Q (.panic c) a' W)
    (hfin : ∀ a' W, HI A κ l.toArray n Vs a w (half n l.length) a' W → wpList P l.toArray Q (l.drop n) a' W) :
    ∀ (c : Nat) (listed : Array Bool) (a' : Act) (W : World), open_ n listed = c → HI A κ l.toArray n Vs a w listed a' W → wpAny P .any l.toArray Q (c + (l.length - n)) listed a' W := by
  intro c
  induction c with
  | zero =>
    intro listed a' W hc h
    have he : listed = half n l.length := by
      refine Array.ext (by rw [h.inv.size]; simp [half]) fun i h1 h2 => ?_
      have h1' : i < l.length := by have := h.inv.size; simp at this; omega
      by_cases hin : i < n
      · have := open_zero hc i hin
        simp only [Array.getD_eq_getD_getElem?, Array.getElem?_eq_getElem h1, Option.getD_some] at this
        simp [half, this, hin]
      · have := h.inv.tail i (by omega) (by simpa using h1')
        simp only [Array.getD_eq_getD_getElem?, Array.getElem?_eq_getElem h1, Option.getD_some] at this
        simp [half, this, hin]
    subst he
    have h1 := wpAny_of_seq (md := .any) (Q' := Q) (P := P) (ops := l.toArray) (l.drop n) n (half n l.length) a' W (fun j => by simp [List.getElem?_drop]) (by simpa using hseq) (hfin a' W h)
    simpa using h1
  | succ c ih =>
    intro listed a' W hc h
    rw [show c + 1 + (l.length - n) = (c + (l.length - n)) + 1 by omega]
    have hsz : listed.size = l.length := by simpa using h.inv.size
    have hex : ∃ i, i < n ∧ listed.getD i false = false := by
      apply Classical.byContradiction
      intro hno
      have : open_ n listed = 0 := by
        unfold open_
        rw [List.length_eq_zero_iff, List.filter_eq_nil_iff]
        intro i hi
        have hi' := List.mem_range.1 hi
        cases hx : listed.getD i false with
        | true => simp
        | false => exact absurd ⟨i, hi', hx⟩ hno
      omega
    have hun : ∃ i, i < n ∧ listed.getD i true = false := by
      obtain ⟨i, hi, hx⟩ := hex
      exact ⟨i, hi, getD_in (by omega) hx⟩
    have hready : Region.ready .any l.toArray listed ≠ [] := by
      obtain ⟨i, hi, hx, hleast⟩ := exists_first n hex
      obtain ⟨o, d, hd⟩ := hheads i hi
      have : i ∈ Region.ready .any l.toArray listed := by
        refine mem_ready.2 ⟨getD_in (by omega) hx, o, hd.op, fun e he hb => ?_⟩
        have := hleast e.on (hd.early e he hb)
        simpa using this
      intro h0
      rw [h0] at this
      cases this
    refine ⟨fun h0 => absurd h0 hready, fun i hi => ?_⟩
    have hin : i < n := by
      rcases Nat.lt_or_ge i n with h' | h'
      · exact h'
      · exact absurd hi (htw listed h.inv hun i h')
    obtain ⟨o, d, hd⟩ := hheads i hin
    have hLi : ∀ j, j < i → (L.take i).getD j (fun _ _ => True) = Vs j := fun j hj => by
      rw [← hL j]
      simp [hj]
    refine wpOp_mono (fun a'' W'' h' => ih _ a'' W'' ?_ h') (h.step hl hd hin hi hLi (hs i o hin hd.op) hP)
    have h1 := open_set (n := n) hin (by omega : i < listed.size) (getD_both (mem_ready.1 hi).1)
    omega

theorem chain_vs {l : List Oper} {Pan : List PanicEntry → World → Prop} {fin : List (Value → World → Prop) → Prop} {tm : Array Value} : ∀ (r : List Oper) (i : Nat) (Ls : List (Value → World → Prop)), Ls.length = i → (∀ V ∈ Ls, Lasts A κ V) → (∀ j o, j < i → l.toArray[j]? = some o → Step A κ P l.toArray n tm w Pan (Ls.take j) o (Ls.getD j fun _ _ => True)) →
    (∀ j, j < r.length → r[j]? = l.toArray[i + j]?) → Chain A κ P l.toArray n tm w Pan r Ls fin →
    ∃ L : List (Value → World → Prop), L.length = i + r.length ∧ (∀ V ∈ L, Lasts A κ V) ∧ (∀ j o, j < i + r.length → l.toArray[j]? = some o → Step A κ P l.toArray n tm w Pan (L.take j) o (L.getD j fun _ _ => True)) ∧ fin L
  | [], i, Ls, h1, h2, h3, _, h => ⟨Ls, by simpa using h1, h2, by simpa using h3, h⟩
  | o :: r, i, Ls, h1, h2, h3, h4, h => by
    obtain ⟨V, hV, hst, hrest⟩ := h
    have h0 : l.toArray[i]? = some o := by simpa using (h4 0 (by simp)).symm
    have := chain_vs (l := l) r (i + 1) (Ls ++ [V]) (by simp [h1]) (fun X hX => by
      rcases List.mem_append.1 hX with hX | hX
      · exact h2 X hX
      · have : X = V := by simpa using hX
        subst this; exact hV) (fun j o' hj ho' => by
        by_cases hji : j = i
        · subst hji
          have : o' = o := Option.some.inj (ho'.symm.trans h0)
          subst this
          have e1 : (Ls ++ [V]).take j = Ls := by rw [← h1]; simp
          have e2 : (Ls ++ [V]).getD j (fun _ _ => True) = V := by rw [← h1]; simp
          rw [e1, e2]; exact hst
        · have hj' : j < i := by omega
          have := h3 j o' hj' ho'
          have e1 : (Ls ++ [V]).take j = Ls.take j := by rw [List.take_append_of_le_length (by omega)]
          have e2 : (Ls ++ [V]).getD j (fun _ _ => True) = Ls.getD j (fun _ _ => True) := by
            simp [List.getElem?_append_left (show j < Ls.length by omega)]
          rw [e1, e2]; exact this) (fun j hj => by
        have := h4 (j + 1) (by simp; omega)
        simpa [Nat.add_assoc, Nat.add_comm 1 j] using this) hrest
    obtain ⟨L, l1, l2, l3, l4⟩ := this
    exact ⟨L, by simp; omega, l2, fun j o' hj => l3 j o' (by simp at hj; omega), l4⟩

/-- A region whose order is open, its first n operations in the text's order; then the others, one after the other. -/
theorem region_chain {id : Nat} {l : List Oper} (n : Nat) (hm : P.follows .mixedOrders = true) (hok : regionOk l.toArray n a.tmps.size = true)
    (h : Chain A κ P l.toArray n a.tmps w.drew (fun c W => ∀ a', a'.defers = a.defers → Q (.panic c) a' W) (l.take n) [] fun L =>
      ∀ (vs : Nat → Value) (W : World), Dn A (κ * n) w W → (∀ i, i < n → (L.getD i fun _ _ => True) (vs i) W) → wpList P l.toArray Q (l.drop n) (lay l.toArray vs n a) W) :
    (Code.region id l.toArray true).wp P Q a w := by
  simp only [regionOk, Bool.and_eq_true, Bool.or_eq_true, decide_eq_true_eq] at hok
  obtain ⟨⟨⟨hn, hh⟩, ht⟩, hseq⟩ := hok
  have hnl : n ≤ l.length := by simpa using hn
  have htl : (l.take n).length = n := by simp; omega
  obtain ⟨L, l1, l2, l3, l4⟩ := chain_vs (l := l) (l.take n) 0 [] rfl (by simp) (fun j o hj => by omega) (fun j hj => by
    have hj' : j < n := by rw [htl] at hj; exact hj
    simp [hj']) h
  rw [htl] at l1 l3
  have hheads := heads_of hh
  have hlast : ∀ i, Lasts A κ (L.getD i fun _ _ => True) := fun i => by
    rcases Nat.lt_or_ge i L.length with h' | h'
    · exact l2 _ (by simp [List.getElem?_eq_getElem h'])
    · rw [show L.getD i (fun _ _ => True) = fun _ _ => True by simp [List.getElem?_eq_none h']]
      exact fun _ _ _ _ _ => trivial
  have inv0 : HeadInv .any l.toArray n (Array.replicate l.toArray.size false) :=
    ⟨by simp, fun j oj _ hl => (by rw [getD_replicate_false] at hl; cases hl), fun t _ ht => getD_in (by simpa using ht) (getD_replicate_false _ _)⟩
  have hopen : open_ n (Array.replicate l.toArray.size false) = n := by
    unfold open_
    rw [List.filter_eq_self.2 fun i _ => by rw [getD_replicate_false]; rfl]
    simp
  have h0 : HI A κ l.toArray n (fun i => L.getD i fun _ _ => True) a w.drew (Array.replicate l.toArray.size false) a w.drew :=
    ⟨inv0, ⟨0, by rw [hopen]; omega, by simpa using Dn.same A _⟩, rfl, rfl, fun i d _ _ hl => (by rw [getD_replicate_false] at hl; cases hl), fun _ _ => rfl⟩
  refine wp_region_any hm ?_
  have := wpAny_of_chain (P := P) (Q := Q) (n := n) (Vs := fun i => L.getD i fun _ _ => True) (a := a) (w := w.drew) (l := l) hlast (Pan := fun c W => ∀ a', a'.defers = a.defers → Q (.panic c) a' W) L hheads hnl
    (fun listed inv hun t htn hr => by
      rcases ht with ht | ht
      · obtain ⟨_, ot, hot, _⟩ := mem_ready.1 hr
        have := (Array.getElem?_eq_some_iff.1 hot).1
        omega
      · obtain ⟨i, hi, hx⟩ := hun
        by_cases hlt : n < l.toArray.size
        · exact tail_waits ht.1 ht.2 hlt inv _ i rfl hi hx t htn hr
        · obtain ⟨_, ot, hot, _⟩ := mem_ready.1 hr
          have := (Array.getElem?_eq_some_iff.1 hot).1
          omega)
    (by simpa using hseq) (fun _ => rfl) (fun i o hi ho => l3 i o (by omega) ho) (fun c W hp a' hd => hp a' hd)
    (fun a' W hI => by
      have e : a' = lay l.toArray (fun i => a'.tmps.getD (((l.toArray[i]?).bind (·.dst)).getD 0) undef) n a := by
        have ed : a'.defers = (lay l.toArray (fun i => a'.tmps.getD (((l.toArray[i]?).bind (·.dst)).getD 0) undef) n a).defers := by rw [lay_defers]; exact hI.defers
        have et : a'.tmps = (lay l.toArray (fun i => a'.tmps.getD (((l.toArray[i]?).bind (·.dst)).getD 0) undef) n a).tmps := by
          refine Array.ext (by rw [lay_size]; exact hI.size) fun t h1 h2 => ?_
          have h3 : t < a.tmps.size := by rw [← hI.size]; exact h1
          refine Option.some.inj ?_
          rw [← Array.getElem?_eq_getElem h1, ← Array.getElem?_eq_getElem h2]
          cases hf : fills l.toArray n t with
          | none =>
            rw [lay_other _ n a fun i hi => fills_none hf i hi]
            have := hI.rest t fun i hi hd => absurd hd (fills_none hf i hi)
            simp only [Array.getD_eq_getD_getElem?, Array.getElem?_eq_getElem h1, Array.getElem?_eq_getElem h3, Option.getD_some] at this
            rw [Array.getElem?_eq_getElem h1, Array.getElem?_eq_getElem h3, this]
          | some k =>
            obtain ⟨hk, hd⟩ := fills_some hf
            obtain ⟨o, d, hdk⟩ := hheads k hk
            have hdt : d = t := by rw [hdk.op] at hd; exact Option.some.inj (hdk.dst.symm.trans hd)
            subst hdt
            rw [lay_at _ n a hk hd h3 hdk.only, hd]
            simp only [Option.getD_some, Array.getD_eq_getD_getElem?, Array.getElem?_eq_getElem h1]
        cases a'; cases hlay : lay l.toArray _ n a
        rw [hlay] at ed et
        simp only at ed et
        rw [ed, et]
      rw [e]
      refine l4 _ W (by
        obtain ⟨c, hc, hw⟩ := hI.grow
        exact ((Dn.drew A w).tr hw).le (by have := Nat.mul_le_mul_left κ (show c ≤ n by omega); omega)) fun i hi => ?_
      obtain ⟨o, d, hd⟩ := hheads i hi
      have hdd : (l.toArray[i]?).bind (·.dst) = some d := by rw [hd.op]; exact hd.dst
      have := hI.done i d hi hdd (by simp [half, hi, show i < l.length by omega])
      simp only [hdd, Option.getD_some]
      exact this)
    n (Array.replicate l.toArray.size false) a w.drew hopen h0
  rw [show n + (l.length - n) = l.toArray.size by simp; omega] at this
  exact this

variable {tm : Array Value} {Pan : List PanicEntry → World → Prop} {o : Oper} {r : List Oper} {Ls : List (Value → World → Prop)} {fin : List (Value → World → Prop) → Prop} {k : Nat}

def Step2 (A κ : Nat) (P : Program) (ops : Array Oper) (n : Nat) (tm : Array Value) (w : World) (Pan : List PanicEntry → World → Prop) (Ls : List (Value → World → Prop)) (k : Nat) (o : Oper) (V : Value → World → Prop) : Prop :=
  ∃ D, (looks ops o).map (place ops n k) = D ∧ ∀ (ρ : Operand → Value) (W : World), Plain ρ → Dn A (κ * n) w W → FactsD Ls tm ρ W D →
    (Lets ops ρ o → Gives A κ P W V Pan ((execOp ρ o).run P W)) ∧ (¬ Lets ops ρ o → V undef W)

/-- The first n operations in the text's order: of each a lasting fact; the facts in a list, the newest first. -/
def Chain2 (A κ : Nat) (P : Program) (ops : Array Oper) (n : Nat) (tm : Array Value) (w : World) (Pan : List PanicEntry → World → Prop) : List Oper → Nat → List (Value → World → Prop) → (List (Value → World → Prop) → Prop) → Prop
  | [], _, Ls, fin => fin Ls
  | o :: r, k, Ls, fin => ∃ V, Lasts A κ V ∧ Step2 A κ P ops n tm w Pan Ls k o V ∧ Chain2 A κ P ops n tm w Pan r (k + 1) (V :: Ls) fin

theorem Chain2.chain : ∀ {r : List Oper} {k : Nat} {Ls : List (Value → World → Prop)}, Ls.length = k → Chain2 A κ P ops n tm w Pan r k Ls fin → Chain A κ P ops n tm w Pan r Ls.reverse fun L => fin L.reverse
  | [], _, _, _, h => by
    show fin (List.reverse _)
    rw [List.reverse_reverse]; exact h
  | o :: r, k, Ls, hk, h => by
    obtain ⟨V, hV, ⟨D, hD, hs⟩, hr⟩ := h
    refine ⟨V, hV, fun ρ W hp hG hF => hs ρ W hp hG (by rw [← hD]; exact FactsD.of hk hF), ?_⟩
    have := Chain2.chain (by simp [hk]) hr
    rw [List.reverse_cons] at this
    exact this

theorem Chain2.len : ∀ {r : List Oper} {k : Nat} {Ls : List (Value → World → Prop)}, Ls.length = k → Chain2 A κ P ops n tm w Pan r k Ls fin → Chain2 A κ P ops n tm w Pan r k Ls fun L => L.length = k + r.length ∧ fin L
  | [], _, _, hk, h => ⟨by simpa using hk, h⟩
  | o :: r, k, Ls, hk, h => by
    obtain ⟨V, hV, hs, hr⟩ := h
    refine ⟨V, hV, hs, ?_⟩
    have := Chain2.len (by simp [hk]) hr
    rw [show k + 1 + r.length = k + (o :: r).length by simp; omega] at this
    exact this

/-- A region whose order is open: see region_chain. -/
theorem region2 {id : Nat} {l : List Oper} (n : Nat) (hm : P.follows .mixedOrders = true) (hok : regionOk l.toArray n a.tmps.size = true)
    (h : Chain2 A κ P l.toArray n a.tmps w.drew (fun c W => ∀ a', a'.defers = a.defers → Q (.panic c) a' W) (l.take n) 0 [] fun L =>
      ∀ (vs : Nat → Value) (W : World), Dn A (κ * n) w W → Holds L n vs W → wpList P l.toArray Q (l.drop n) (lay l.toArray vs n a) W) :
    (Code.region id l.toArray true).wp P Q a w := by
  have hn : n ≤ l.length := by
    simp only [regionOk, Bool.and_eq_true, decide_eq_true_eq] at hok
    simpa using hok.1.1.1
  refine region_chain (A := A) (κ := κ) n hm hok ?_
  have h1 := Chain2.chain (k := 0) (Ls := []) rfl (Chain2.len (k := 0) (Ls := []) rfl h)
  have hmono : ∀ {f g : List (Value → World → Prop) → Prop}, (∀ L, f L → g L) → ∀ (r : List Oper) (Ls : List (Value → World → Prop)), Chain A κ P l.toArray n a.tmps w.drew (fun c W => ∀ a', a'.defers = a.defers → Q (.panic c) a' W) r Ls f → Chain A κ P l.toArray n a.tmps w.drew (fun c W => ∀ a', a'.defers = a.defers → Q (.panic c) a' W) r Ls g := by
    intro f g hfg r
    induction r with
    | nil => intro Ls hc; exact hfg _ hc
    | cons o r ih => intro Ls ⟨V, hV, hs, hr⟩; exact ⟨V, hV, hs, ih _ hr⟩
  refine hmono (fun L hL => ?_) _ _ h1
  obtain ⟨hlen, hf⟩ := hL
  intro vs W hg hv
  have hl : L.reverse.length = n := by rw [hlen]; simp; omega
  refine hf vs W hg ?_
  have := Holds.of (Ls := L.reverse) (vs := vs) (W := W) fun i hi => by
    rw [List.reverse_reverse]; exact hv i (by omega)
  rwa [hl] at this

variable {D : List (Tmp × Option Nat)} {V : Value → World → Prop}
/-- An operation of whose value a lasting fact is known. -/
theorem chain_any (hg : o.guard = none) (hD : (looks ops o).map (place ops n k) = D) (hV : Lasts A κ V) (h : ∀ (ρ : Operand → Value) (W : World), Plain ρ → Dn A (κ * n) w W → FactsD Ls tm ρ W D → ∀ K : Result Next → Prop, (∀ r, Gives A κ P W V Pan r → K r) → K ((execOp ρ o).run P W))
    (hr : Chain2 A κ P ops n tm w Pan r (k + 1) (V :: Ls) fin) : Chain2 A κ P ops n tm w Pan (o :: r) k Ls fin :=
  ⟨V, hV, ⟨D, hD, fun ρ W hp hG hF => ⟨fun _ => h ρ W hp hG hF _ fun _ h => h, fun hno => absurd (show Lets ops ρ o by simp [Lets, hg]) hno⟩⟩, hr⟩
/-- An operation whose value is known. -/
theorem chain_eq {c : Value} (hg : o.guard = none) (hD : (looks ops o).map (place ops n k) = D) (h : ∀ (ρ : Operand → Value) (W : World), Plain ρ → Dn A (κ * n) w W → FactsD Ls tm ρ W D → ∀ K : Result Next → Prop, (∀ r, Gives A κ P W (fun v _ => v = c) Pan r → K r) → K ((execOp ρ o).run P W))
    (hr : Chain2 A κ P ops n tm w Pan r (k + 1) ((fun v _ => v = c) :: Ls) fin) : Chain2 A κ P ops n tm w Pan (o :: r) k Ls fin := chain_any hg hD (Lasts.eq c) h hr
/-- An operation that its guard passes over. -/
theorem chain_skip (hD : (looks ops o).map (place ops n k) = D) (h : ∀ (ρ : Operand → Value) (W : World), FactsD Ls tm ρ W D → ¬ Lets ops ρ o)
    (hr : Chain2 A κ P ops n tm w Pan r (k + 1) ((fun v _ => v = undef) :: Ls) fin) : Chain2 A κ P ops n tm w Pan (o :: r) k Ls fin :=
  ⟨fun v _ => v = undef, Lasts.eq undef, ⟨D, hD, fun ρ W _ _ hF => ⟨fun hl => absurd hl (h ρ W hF), fun _ => rfl⟩⟩, hr⟩
/-- An operation that its guard lets be carried out. -/
theorem chain_let (hD : (looks ops o).map (place ops n k) = D) (hl : ∀ (ρ : Operand → Value) (W : World), FactsD Ls tm ρ W D → Lets ops ρ o) (hV : Lasts A κ V) (h : ∀ (ρ : Operand → Value) (W : World), Plain ρ → Dn A (κ * n) w W → FactsD Ls tm ρ W D → ∀ K : Result Next → Prop, (∀ r, Gives A κ P W V Pan r → K r) → K ((execOp ρ o).run P W))
    (hr : Chain2 A κ P ops n tm w Pan r (k + 1) (V :: Ls) fin) : Chain2 A κ P ops n tm w Pan (o :: r) k Ls fin :=
  ⟨V, hV, ⟨D, hD, fun ρ W hp hG hF => ⟨fun _ => h ρ W hp hG hF _ fun _ h => h, fun hno => absurd (hl ρ W hF) hno⟩⟩, hr⟩
theorem chain_leq {c : Value} (hD : (looks ops o).map (place ops n k) = D) (hl : ∀ (ρ : Operand → Value) (W : World), FactsD Ls tm ρ W D → Lets ops ρ o) (h : ∀ (ρ : Operand → Value) (W : World), Plain ρ → Dn A (κ * n) w W → FactsD Ls tm ρ W D → ∀ K : Result Next → Prop, (∀ r, Gives A κ P W (fun v _ => v = c) Pan r → K r) → K ((execOp ρ o).run P W))
    (hr : Chain2 A κ P ops n tm w Pan r (k + 1) ((fun v _ => v = c) :: Ls) fin) : Chain2 A κ P ops n tm w Pan (o :: r) k Ls fin := chain_let hD hl (Lasts.eq c) h hr
theorem chain_done (h : fin Ls) : Chain2 A κ P ops n tm w Pan [] k Ls fin := h
/-- A call whose value is known. -/
theorem gives_call {c : Value} {f : FuncId} {args : Array Value} {W : World} (h : Calls P f args W fun e W' => e = .returned c ∧ Dn A κ W W') : Gives A κ P W (fun v _ => v = c) Pan (.ok (.enter f args) W) :=
  ⟨Gr.same W, h.mono fun e W' he => by
    obtain ⟨rfl, hb⟩ := he
    exact ⟨rfl, hb⟩⟩
theorem gives_rel {f : FuncId} {args : Array Value} {W : World} (h : Calls P f args W fun e W' => (∃ v, e = .returned v ∧ V v W') ∧ Dn A κ W W') : Gives A κ P W V Pan (.ok (.enter f args) W) :=
  ⟨Gr.same W, h.mono fun e W' he => by
    obtain ⟨⟨v, rfl, hv⟩, hb⟩ := he
    exact ⟨hv, hb⟩⟩
theorem gives_gr {c : Value} {f : FuncId} {args : Array Value} {W : World} (h : Calls P f args W fun e W' => e = .returned c ∧ Below W.heap.size W W') : Gives A κ P W (fun v _ => v = c) Pan (.ok (.enter f args) W) :=
  gives_call (h.mono fun e W' he => ⟨he.1, (Dn.of he.2).le (by omega)⟩)
theorem gives_val {c : Value} {W : World} : Gives A κ P W (fun v _ => v = c) Pan (.ok (.value c) W) := ⟨rfl, (Dn.same A W).le (by omega)⟩
end
end Dv
/-- The row of raw numbers. -/
def ByIn (b o len : Nat) (w : World) : Prop := 0 < len ∧ len ≤ maxLen ∧ b < w.heap.size ∧ ∀ i, i < len → ∃ x : Int, w.cell? ⟨b, o + i, none⟩ = some (.int .u16 x) ∧ 0 ≤ x ∧ x ≤ 65535
/-- What a draw wants: the number of draws so far, in the block A, is at most N. -/
structure DrawOk (A B b o len cap N : Nat) (w : World) : Prop where
  at_ : ∃ m : Int, Box w A [.int .i64 m] 3 ∧ 0 ≤ m ∧ m ≤ N
  by_ : Box w B [.slice (some ⟨b, o, none⟩) len cap] 50
  row : ByIn b o len w
  nB : B ≠ A
  nb : b ≠ A
theorem DrawOk.grow {A B b o len cap N i : Nat} {w W : World} (h : DrawOk A B b o len cap N w) (hd : Dn A i w W) : DrawOk A B b o len cap (N + i) W := by
  obtain ⟨⟨m, h1, h2, h3⟩, h4, ⟨h5, h6, h7, h8⟩, h9, h10⟩ := h
  obtain ⟨m', a1, a2, a3⟩ := hd.cell m h1
  exact ⟨⟨m', a1, by omega, by omega⟩, hd.box h4 h9, ⟨h5, h6, Nat.lt_of_lt_of_le h7 hd.size, fun i hi => by
    obtain ⟨x, hx, hx'⟩ := h8 i hi
    exact ⟨x, (hd.cells.1 _ _ h7 h10).trans hx, hx'⟩⟩, h9, h10⟩
theorem DrawOk.le {A B b o len cap N M : Nat} {w : World} (h : DrawOk A B b o len cap N w) (hm : N ≤ M) : DrawOk A B b o len cap M w := by
  obtain ⟨⟨m, h1, h2, h3⟩, h4, h5, h6, h7⟩ := h
  exact ⟨⟨m, h1, h2, by omega⟩, h4, h5, h6, h7⟩
theorem Dn.put {A : Nat} {w : World} {m : Int} (h : Box w A [.int .i64 m] 3) : Dn A 1 w (w.setCell ⟨A, 0, none⟩ (.int .i64 (m + 1))) := by
  refine ⟨rfl, rfl, rfl, by simp, fun k hk hA => ?_, fun m' hm' => ⟨m + 1, h.put 0 _, ?_⟩⟩
  · exact Below.heap_setCell _ _ _ _ (by simpa using hA)
  · have e : m' = m := by
      unfold Box at h hm'
      rw [h] at hm'
      simpa using hm'.symm
    subst e
    omega
/-- A store into what is new. -/
theorem Dn.other {A i : Nat} {w W : World} (h : Dn A i w W) {b : Nat} (hb : w.heap.size ≤ b) (hA : b ≠ A) (k : Nat) (x : Value) : Dn A i w (W.setCell ⟨b, k, none⟩ x) :=
  ⟨h.os, h.tape, h.output, by simpa using h.size, fun c hc hcA => (Below.heap_setCell _ _ _ _ (by simp; omega)).trans (h.block c hc hcA), fun m hm => by
    obtain ⟨m', h1, h2⟩ := h.cell m hm
    exact ⟨m', h1.other (fun e => hA e.symm) _ _, h2⟩⟩
set_option maxHeartbeats 1600000 in
theorem draw_any {A B b o len cap N : Nat} {w : World} (h : DrawOk A B b o len cap N w) (hN : N ≤ 100000) (n : Int) (hn : 0 < n) (hn' : n ≤ 1000000000) :
    Calls Try.prog 77 #[.int .i64 n, .pointer (some ⟨A, 0, none⟩), .pointer (some ⟨B, 0, none⟩)] w fun e w' => (∃ r : Int, e = .returned (.int .i64 r) ∧ 0 ≤ r ∧ r < n) ∧ Dn A 1 w w' := by
  obtain ⟨⟨m, h1, h2, h3⟩, h4, ⟨h5, h6, h7, h8⟩, h9, h10⟩ := h
  have hlm : (len : Int) ≤ 9223372036854775807 := by unfold maxLen at h6; omega
  obtain ⟨j, hj, hjm⟩ : ∃ j : Nat, j < len ∧ (m + 1) % (len : Int) = j := ⟨((m + 1) % len).toNat, by have := Int.emod_lt_of_pos (m + 1) (show (0 : Int) < len by omega); have := Int.emod_nonneg (m + 1) (show (len : Int) ≠ 0 by omega); omega, by have := Int.emod_nonneg (m + 1) (show (len : Int) ≠ 0 by omega); omega⟩
  obtain ⟨x, hx, hx0, hx1⟩ := h8 j hj
  have hg : Dn A 1 w (w.setCell ⟨A, 0, none⟩ (.int .i64 (m + 1))) := Dn.put h1
  have c0 := h1.cell (i := 0) rfl
  have f0 := h1.free 0
  have hB : (w.setCell ⟨A, 0, none⟩ (.int .i64 (m + 1))).cell? ⟨B, 0, none⟩ = some (.slice (some ⟨b, o, none⟩) len cap) := (hg.box h4 h9).cell rfl
  have hA : (w.setCell ⟨A, 0, none⟩ (.int .i64 (m + 1))).cell? ⟨A, 0, none⟩ = some (.int .i64 (m + 1)) := (h1.put 0 _).cell rfl
  have hb : (w.setCell ⟨A, 0, none⟩ (.int .i64 (m + 1))).cell? ⟨b, o + j, none⟩ = some (.int .u16 x) := (hg.cells.1 _ _ h7 h10).trans hx
  have e1 : wrap64 (m + 1) = m + 1 := IntWalk.wrap64_in _ ⟨by omega, by omega⟩
  have e2 : wrap64 (7 * (m + 1)) = 7 * (m + 1) := IntWalk.wrap64_in _ ⟨by omega, by omega⟩
  have e3 : wrap64 (x + 7 * (m + 1)) = x + 7 * (m + 1) := IntWalk.wrap64_in _ ⟨by omega, by omega⟩
  have hln : ¬ (len : Int) = 0 := by omega
  have hnn : ¬ n = 0 := by omega
  have HG := Lib.hid hg
  clear h4 h8 hx hg h1
  go_enter Try.func77, Try.ntmps77
  go_wp2_with fail
  generalize w.setCell ⟨A, 0, none⟩ (.int .i64 (m + 1)) = w1 at *
  go_quiet (fail)
  go_wp2
  have hgo : Dn A 1 w (w1.drewN nq) := by have := HG.out.tr (Dn.of (A := A) ((Below.refl _ _).trans ⟨rfl, rfl, rfl, Nat.le_refl _, fun _ _ => rfl⟩ : Gr w1 (w1.drewN nq))); simpa using this
  exact bodyPost_ret (v := .int .i64 ((x + 7 * (m + 1)) % n)) (by simp [results, Try.results77, go_sem]) rfl ⟨⟨_, rfl, Int.emod_nonneg _ hnn, Int.emod_lt_of_pos _ hn⟩, hgo⟩
/-- A number, or a span, of which no more is known than a property. -/
def DI (P : Int → Prop) (v : Value) (_ : World) : Prop := ∃ r : Int, v = .int .i64 r ∧ P r
theorem DI.lasts {A κ : Nat} (P : Int → Prop) : Dv.Lasts A κ (DI P) := fun _ _ _ h _ => h
theorem DI.val {A κ : Nat} {Pr : Program} {W : World} {Pan : List PanicEntry → World → Prop} {P : Int → Prop} {r : Int} (h : P r) : Dv.Gives A κ Pr W (DI P) Pan (.ok (.value (.int .i64 r)) W) := ⟨⟨r, rfl, h⟩, (Dn.same A W).le (Nat.zero_le _)⟩
theorem DI.valw {A κ : Nat} {Pr : Program} {W : World} {Pan : List PanicEntry → World → Prop} {P : Int → Prop} {r : Int} (h1 : -9223372036854775808 ≤ r) (h2 : r ≤ 9223372036854775807) (h : P r) : Dv.Gives A κ Pr W (DI P) Pan (.ok (.value (.int .i64 (IntKind.i64.wrap r))) W) := by
  have e : IntKind.i64.wrap r = r := by rw [IntKind.wrap_i64]; omega
  rw [e]; exact DI.val h
def DS (P : Int → Int → Prop) (v : Value) (_ : World) : Prop := ∃ a b : Int, v = .agg #[.int .i64 a, .int .i64 b] ∧ P a b
theorem DS.lasts {A κ : Nat} (P : Int → Int → Prop) : Dv.Lasts A κ (DS P) := fun _ _ _ h _ => h
theorem draw_rel {A B b o len cap N : Nat} {w : World} (h : DrawOk A B b o len cap N w) (hN : N ≤ 100000) (n : Int) (hn : 0 < n) (hn' : n ≤ 1000000000) :
    Calls Try.prog 77 #[.int .i64 n, .pointer (some ⟨A, 0, none⟩), .pointer (some ⟨B, 0, none⟩)] w fun e w' => (∃ v, e = .returned v ∧ DI (fun r => 0 ≤ r ∧ r < n) v w') ∧ Dn A 1 w w' :=
  (draw_any h hN n hn hn').mono fun _e _w' ⟨⟨r, h1, h2, h3⟩, h4⟩ => ⟨⟨_, h1, r, rfl, h2, h3⟩, h4⟩
/-- The function that draws. -/
def drawV (A B : Nat) : Value := .func (.func 77) #[] #[.pointer (some ⟨A, 0, none⟩), .pointer (some ⟨B, 0, none⟩)]
end Go.Proofs.Ytjlaoiimbhlafaa
