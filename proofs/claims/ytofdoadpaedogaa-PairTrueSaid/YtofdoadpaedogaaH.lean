/- The rule for a region whose order is open, once more: one operation of the tail, an address or the like, that waits for nothing, is taken first. -/
import Derived.Test.YtofdoadpaedogaaG
namespace Go.Proofs.Ytofdoadpaedogaa
open Go.RowKit

section
variable {P : Program} {ops : Array Oper} {Q : Exit → Act → World → Prop} {md : Region.Mode} {n p : Nat} {Vs : Nat → Value → World → Prop} {a a' : Act} {w W W' : World} {listed : Array Bool}

/-- The first n, one after the other; p has come up; the others have not. -/
structure PInv (ops : Array Oper) (n p : Nat) (listed : Array Bool) : Prop where
  size : listed.size = ops.size
  closed : ∀ j oj, ops[j]? = some oj → listed.getD j false = true → ∀ e ∈ oj.after, Region.binds .any e = true → listed.getD e.on false = true
  tail : ∀ t, n ≤ t → t < ops.size → t ≠ p → listed.getD t true = false
  took : listed.getD p false = true

theorem PInv.set {i : Nat} (inv : PInv ops n p listed) (hi : i ∈ Region.ready .any ops listed) (hin : i < n) : PInv ops n p (listed.setIfInBounds i true) := by
  obtain ⟨_, oi, hoi, hall⟩ := mem_ready.1 hi
  refine ⟨by simp [inv.size], fun j oj hj hl e he hb => ?_, fun t ht ht' hp => by rw [getD_set_ne true (by omega)]; exact inv.tail t ht ht' hp, getD_set_true inv.took⟩
  by_cases hij : i = j
  · subst hij
    have : oj = oi := Option.some.inj (hj.symm.trans hoi)
    subst this
    exact getD_set_true (hall e he hb)
  · rw [getD_set_ne false hij] at hl
    exact getD_set_true (inv.closed j oj hj hl e he hb)

/-- Each later one of the tail waits for an earlier one. -/
def chainP (ops : Array Oper) (n p : Nat) : Bool :=
  (List.range ops.size).all fun t => decide (t ≤ n) || decide (t = p) || (List.range t).any fun s => decide (n ≤ s) && decide (s ≠ p) && Region.waitsFor .any ops t s

theorem tailP {ops : Array Oper} {n p : Nat} {listed : Array Bool} (hs : Region.sinkB .any ops n = true) (hc : chainP ops n p = true) (hn : n < ops.size) (hp : n < p) (inv : PInv ops n p listed) :
    ∀ (d i : Nat), n - i = d → i < n → listed.getD i true = false → ∀ t, n ≤ t → t ∉ Region.ready .any ops listed := by
  intro d
  induction d using Nat.strongRecOn with
  | _ d ih =>
    intro i hd hi hun t ht hr
    obtain ⟨h0, ot, hot, hall⟩ := mem_ready.1 hr
    have htlt : t < ops.size := (Array.getElem?_eq_some_iff.1 hot).1
    by_cases htp : t = p
    · subst htp
      have := inv.took
      rw [getD_both h0] at this
      cases this
    by_cases htn : t = n
    · subst htn
      have h1 := List.all_eq_true.1 hs i (List.mem_range.2 hi)
      obtain ⟨j, hj, hj2⟩ := List.any_eq_true.1 h1
      simp only [Bool.and_eq_true, decide_eq_true_eq] at hj2
      obtain ⟨oj, hoj, e, he, hb, hon⟩ := Region.waitsFor_spec hj2.2
      have hjle : j ≤ t := by have := List.mem_range.1 hj; omega
      by_cases hjt : j = t
      · subst hjt
        have : oj = ot := Option.some.inj (hoj.symm.trans hot)
        subst this
        have h2 := hall e he hb
        rw [hon, getD_both hun] at h2
        cases h2
      · cases hl : listed.getD j false with
        | true =>
          have h2 := inv.closed j oj hoj hl e he hb
          rw [hon, getD_both hun] at h2
          cases h2
        | false =>
          have hjs : j < listed.size := by rw [inv.size]; omega
          exact ih (t - j) (by omega) j rfl (by omega) (getD_in hjs hl) t (Nat.le_refl _) hr
    · have h1 := List.all_eq_true.1 hc t (List.mem_range.2 htlt)
      simp only [Bool.or_eq_true, decide_eq_true_eq] at h1
      rcases h1 with (h1 | h1) | h1
      · omega
      · exact htp h1
      · obtain ⟨s, hs1, hs2⟩ := List.any_eq_true.1 h1
        simp only [Bool.and_eq_true, decide_eq_true_eq] at hs2
        obtain ⟨o', ho', e, he, hb, hon⟩ := Region.waitsFor_spec hs2.2
        have : o' = ot := Option.some.inj (ho'.symm.trans hot)
        subst this
        have h2 := hall e he hb
        have hst := List.mem_range.1 hs1
        rw [hon, getD_both (inv.tail s hs2.1.1 (by omega) hs2.1.2)] at h2
        cases h2

/-- These come up in just this order. -/
def seqL (ops : Array Oper) : List Nat → Array Bool → Bool
  | [], listed => (Region.ready .any ops listed).isEmpty
  | k :: ks, listed => decide (Region.ready .any ops listed = [k]) && seqL ops ks (listed.setIfInBounds k true)

theorem wpAny_of_seqL : ∀ (js : List Nat) (listed : Array Bool) (a : Act) (w : World), seqL ops js listed = true → wpList P ops Q (js.filterMap fun j => ops[j]?) a w → wpAny P .any ops Q js.length listed a w
  | [], _, _, _, hB, h => ⟨by simpa [seqL] using hB, h⟩
  | k :: js, listed, a, w, hB, h => by
    simp only [seqL, Bool.and_eq_true, decide_eq_true_eq] at hB
    refine ⟨fun h1 => (by rw [hB.1] at h1; cases h1), fun i hi => ?_⟩
    have hi0 := hi
    rw [hB.1] at hi
    have hik : i = k := by simpa using hi
    subst hik
    obtain ⟨_, o, ho, _⟩ := mem_ready.1 hi0
    rw [List.filterMap_cons_some ho] at h
    have hw : wpOp P ops Q i (wpList P ops Q (js.filterMap fun j => ops[j]?)) a w := by unfold wpOp; simp only [ho]; exact h
    exact wpOp_mono (fun a' w' h' => wpAny_of_seqL js _ a' w' hB.2 h') hw

def halfP (n p size : Nat) : Array Bool := ((List.range size).map fun i => decide (i < n) || decide (i = p)).toArray

structure HP (ops : Array Oper) (n p : Nat) (Vs : Nat → Value → World → Prop) (a : Act) (w : World) (listed : Array Bool) (a' : Act) (W : World) : Prop where
  inv : PInv ops n p listed
  grow : Gr w W
  defers : a'.defers = a.defers
  size : a'.tmps.size = a.tmps.size
  done : ∀ i d, i < n → (ops[i]?).bind (·.dst) = some d → listed.getD i false = true → Vs i (a'.tmps.getD d undef) W
  rest : ∀ t, (∀ i, i < n → (ops[i]?).bind (·.dst) = some t → listed.getD i false = false) → a'.tmps.getD t undef = a.tmps.getD t undef

theorem HP.set (h : HP ops n p Vs a w listed a' W) (hl : ∀ i, Lasts (Vs i)) {i d : Nat} {o : Oper} (hd : HeadOk ops n a.tmps.size i o d) (hin : i < n) (hr : i ∈ Region.ready .any ops listed) {v : Value} (hv : Vs i v W') (hg : Gr W W') :
    HP ops n p Vs a w (listed.setIfInBounds i true) (a'.put (some d) v) W' := by
  have his : i < listed.size := by
    rw [h.inv.size]; exact (Array.getElem?_eq_some_iff.1 hd.op).1
  have hdd : (ops[i]?).bind (·.dst) = some d := by rw [hd.op]; exact hd.dst
  refine ⟨h.inv.set hr hin, h.grow.tr hg, h.defers, by simpa [Act.put] using h.size, fun j e hj hje hl' => ?_, fun t ht => ?_⟩
  · by_cases hij : i = j
    · subst hij
      have : d = e := Option.some.inj (hdd.symm.trans hje)
      subst this
      have hs : d < a'.tmps.size := by rw [h.size]; exact hd.lt
      simpa [Act.put, hs] using hv
    · rw [getD_set_ne false hij] at hl'
      have hne : d ≠ e := fun e' => hij (hd.only j hj (by rw [hje, e'])).symm
      have := hl j _ _ _ (h.done j e hj hje hl') hg
      simpa [Act.put, Array.getElem?_setIfInBounds_ne hne] using this
  · have hne : d ≠ t := fun e => by
      have := ht i hin (by rw [hdd, e])
      rw [listed_set_self his] at this
      cases this
    have := h.rest t fun j hj hjt => by
      have h1 := ht j hj hjt
      by_cases hij : i = j
      · subst hij; exact absurd (Option.some.inj (hdd.symm.trans hjt)) hne
      · rwa [getD_set_ne false hij] at h1
    simpa [Act.put, Array.getElem?_setIfInBounds_ne hne] using this

theorem HP.step (h : HP ops n p Vs a w listed a' W) (hl : ∀ i, Lasts (Vs i)) {L : List (Value → World → Prop)} {Pan : List PanicEntry → World → Prop} {i d : Nat} {o : Oper} (hd : HeadOk ops n a.tmps.size i o d) (hin : i < n) (hr : i ∈ Region.ready .any ops listed)
    (hL : ∀ j, j < i → L.getD j (fun _ _ => True) = Vs j) (hs : Step P ops n a.tmps w Pan L o (Vs i))
    (hP : ∀ c W, Pan c W → ∀ a', a'.defers = a.defers → Q (.panic c) a' W) :
    wpOp P ops Q i (HP ops n p Vs a w (listed.setIfInBounds i true)) a' W := by
  obtain ⟨_, oi, hoi, hall⟩ := mem_ready.1 hr
  have : oi = o := Option.some.inj (hoi.symm.trans hd.op)
  subst this
  have hf : Facts ops n L a.tmps a'.eval W (looks ops oi) := Facts.mk fun t ht => by
    unfold Fact
    cases hfl : fills ops n t with
    | none =>
      exact h.rest t fun j hj hjt => absurd hjt (fills_none hfl j hj)
    | some j =>
      obtain ⟨hjn, hjd⟩ := fills_some hfl
      obtain ⟨hji, hw⟩ := hd.sees t ht j hfl
      obtain ⟨oj, hoj, e, he, hb, hon⟩ := Region.waitsFor_spec hw
      have : oj = oi := Option.some.inj (hoj.symm.trans hd.op)
      subst this
      have h1 := hall e he hb
      rw [hon] at h1
      have h2 := h.done j t hjn hjd h1
      simp only [hL j hji]
      exact h2
  obtain ⟨s1, s2⟩ := hs a'.eval W (Plain.eval a') h.grow hf
  unfold wpOp
  simp only [hd.op]
  by_cases hw : Region.wanted oi (yielded ops a'.tmps) = true
  · rw [if_pos hw]
    refine .inl ?_
    have h1 := s1 (lets_of_wanted.1 hw)
    unfold Oper.wp
    have key : ∀ v W', Vs i v W' → Gr W W' → HP ops n p Vs a w (listed.setIfInBounds i true) (a'.put (some d) v) W' := fun v W' hv hg => h.set hl hd hin hr hv hg
    cases hrun : (execOp a'.eval oi).run P W with
    | ok nx w' =>
      rw [hrun] at h1
      cases nx <;> simp only [Gives] at h1 <;> simp only [Oper.upon, hd.dst]
      case value v => exact key _ _ h1.1 h1.2
      case skip => exact key _ _ h1.1 h1.2
      case enter f args =>
        refine h1.2.mono fun e w'' he => ?_
        cases e with
        | returned v => exact key _ _ he.1 (h1.1.tr he.2)
        | panicked c => exact hP _ _ he _ h.defers
        | outgrown => exact he.elim
    | halt x w' =>
      rw [hrun] at h1
      cases x <;> simp only [Gives] at h1
      case panic v => exact hP _ _ h1 _ h.defers
  · rw [if_neg hw, hd.dst]
    exact h.set hl hd hin hr (s2 fun hl' => hw (lets_of_wanted.2 hl')) (Gr.same W)

theorem wpAny_of_chainP {l : List Oper} {js : List Nat} (hl : ∀ i, Lasts (Vs i)) {Pan : List PanicEntry → World → Prop} (L : List (Value → World → Prop))
    (hheads : ∀ k, k < n → ∃ o d, HeadOk l.toArray n a.tmps.size k o d) (hnl : n < l.length) (hp : n < p)
    (hsink : Region.sinkB .any l.toArray n = true) (hchain : chainP l.toArray n p = true)
    (hseq : seqL l.toArray js (halfP n p l.length) = true)
    (hL : ∀ j, L.getD j (fun _ _ => True) = Vs j) (hs : ∀ i o, i < n → l.toArray[i]? = some o → Step P l.toArray n a.tmps w Pan (L.take i) o (Vs i))
    (hP : ∀ c W, Pan c W → ∀ a', a'.defers = a.defers → Q (.panic c) a' W)
    (hfin : ∀ a' W, HP l.toArray n p Vs a w (halfP n p l.length) a' W → wpList P l.toArray Q (js.filterMap fun j => l.toArray[j]?) a' W) :
    ∀ (c : Nat) (listed : Array Bool) (a' : Act) (W : World), open_ n listed = c → HP l.toArray n p Vs a w listed a' W → wpAny P .any l.toArray Q (c + js.length) listed a' W := by
  intro c
  induction c with
  | zero =>
    intro listed a' W hc h
    have he : listed = halfP n p l.length := by
      refine Array.ext (by rw [h.inv.size]; simp [halfP]) fun i h1 h2 => ?_
      have h1' : i < l.length := by have := h.inv.size; simp at this; omega
      by_cases hin : i < n
      · have := open_zero hc i hin
        simp only [Array.getD_eq_getD_getElem?, Array.getElem?_eq_getElem h1, Option.getD_some] at this
        simp [halfP, this, hin]
      · by_cases hip : i = p
        · subst hip
          have := h.inv.took
          simp only [Array.getD_eq_getD_getElem?, Array.getElem?_eq_getElem h1, Option.getD_some] at this
          simp [halfP, this]
        · have := h.inv.tail i (by omega) (by simpa using h1') hip
          simp only [Array.getD_eq_getD_getElem?, Array.getElem?_eq_getElem h1, Option.getD_some] at this
          simp [halfP, this, hin, hip]
    subst he
    have h1 := wpAny_of_seqL (P := P) (Q := Q) (ops := l.toArray) js (halfP n p l.length) a' W hseq (hfin a' W h)
    simpa using h1
  | succ c ih =>
    intro listed a' W hc h
    rw [show c + 1 + js.length = (c + js.length) + 1 by omega]
    have hsz : listed.size = l.length := by simpa using h.inv.size
    have hex : ∃ i, i < n ∧ listed.getD i false = false := by
      apply Classical.byContradiction
      intro hno
      have : open_ n listed = 0 := by
        unfold open_
        rw [List.length_eq_zero_iff, List.filter_eq_nil_iff]
        intro i hi
        have hi' := List.mem_range.1 hi
        cases hx : listed.getD i false with
        | true => simp
        | false => exact absurd ⟨i, hi', hx⟩ hno
      omega
    have hun : ∃ i, i < n ∧ listed.getD i true = false := by
      obtain ⟨i, hi, hx⟩ := hex
      exact ⟨i, hi, getD_in (by omega) hx⟩
    have hready : Region.ready .any l.toArray listed ≠ [] := by
      obtain ⟨i, hi, hx, hleast⟩ := exists_first n hex
      obtain ⟨o, d, hd⟩ := hheads i hi
      have : i ∈ Region.ready .any l.toArray listed := by
        refine mem_ready.2 ⟨getD_in (by omega) hx, o, hd.op, fun e he hb => ?_⟩
        have := hleast e.on (hd.early e he hb)
        simpa using this
      intro h0
      rw [h0] at this
      cases this
    refine ⟨fun h0 => absurd h0 hready, fun i hi => ?_⟩
    have hin : i < n := by
      rcases Nat.lt_or_ge i n with h' | h'
      · exact h'
      · obtain ⟨j, hj, hx⟩ := hun
        exact absurd hi (tailP hsink hchain (by simpa using hnl) hp h.inv _ j rfl hj hx i h')
    obtain ⟨o, d, hd⟩ := hheads i hin
    have hLi : ∀ j, j < i → (L.take i).getD j (fun _ _ => True) = Vs j := fun j hj => by
      rw [← hL j]
      simp [hj]
    refine wpOp_mono (fun a'' W'' h' => ih _ a'' W'' ?_ h') (h.step hl hd hin hi hLi (hs i o hin hd.op) hP)
    have h1 := open_set (n := n) hin (by omega : i < listed.size) (getD_both (mem_ready.1 hi).1)
    omega

def regionP (ops : Array Oper) (n p size : Nat) (js : List Nat) : Bool :=
  decide (n < ops.size) && decide (n < p) && decide (p < ops.size) && decide (n + js.length + 1 = ops.size) && (List.range n).all (fun k => headOk ops n k size) && Region.sinkB .any ops n && chainP ops n p && seqL ops js (halfP n p ops.size)

/-- A region whose order is open: operation p is taken first; then the first n in the text's order; then the others, one after the other. -/
theorem region3 {id : Nat} {l : List Oper} (n p : Nat) (js : List Nat) {oi : Oper} {v : Value} (hm : P.follows .mixedOrders = true) (hi : l.toArray[p]? = some oi) (hsel : Region.noSelect l.toArray = true)
    (hfree : Region.free .any l.toArray (Array.replicate l.toArray.size false) p = true) (hrd : (Region.ready .any l.toArray (Array.replicate l.toArray.size false)).contains p = true)
    (hQ : ∀ c a w, Q (.panic c) (a.put oi.dst v) w → Q (.panic c) a w) (hy : Yields P l.toArray oi v a)
    (hok : regionP l.toArray n p (a.put oi.dst v).tmps.size js = true)
    (h : Chain2 P l.toArray n (a.put oi.dst v).tmps w.drew (fun c W => ∀ a', a'.defers = (a.put oi.dst v).defers → Q (.panic c) a' W) (l.take n) 0 [] fun L =>
      ∀ (vs : Nat → Value) (W : World), Gr w W → Holds L n vs W → wpList P l.toArray Q (js.filterMap fun j => l.toArray[j]?) (lay l.toArray vs n (a.put oi.dst v)) W) :
    (Code.region id l.toArray true).wp P Q a w := by
  refine wp_region_any hm ?_
  simp only [regionP, Bool.and_eq_true, decide_eq_true_eq] at hok
  obtain ⟨⟨⟨⟨⟨⟨⟨hn, hp⟩, hps⟩, hjs⟩, hh⟩, hsink⟩, hchain⟩, hseq⟩ := hok
  have hnl : n < l.length := by simpa using hn
  rw [show l.toArray.size = (n + js.length) + 1 by omega]
  refine wpAny_take hi hsel (by rw [hjs]; exact hfree) (by rw [hjs]; exact hrd) hQ hy ?_
  rw [show (n + js.length) + 1 = l.toArray.size by omega]
  generalize ha1 : a.put oi.dst v = a1 at *
  have h1 := Chain2.chain (k := 0) (Ls := []) rfl (Chain2.len (k := 0) (Ls := []) rfl h)
  have htl : (l.take n).length = n := by simp; omega
  obtain ⟨L, l1, l2, l3, l4, l5⟩ := chain_vs (l := l) (l.take n) 0 [] rfl (by simp) (fun j o hj => by omega) (fun j hj => by
    have hj' : j < n := by rw [htl] at hj; exact hj
    simp [hj']) h1
  rw [htl] at l1 l3
  have hheads := heads_of hh
  have hlast : ∀ i, Lasts (L.getD i fun _ _ => True) := fun i => by
    rcases Nat.lt_or_ge i L.length with h' | h'
    · exact l2 _ (by simp [List.getElem?_eq_getElem h'])
    · rw [show L.getD i (fun _ _ => True) = fun _ _ => True by simp [List.getElem?_eq_none h']]
      exact fun _ _ _ _ _ => trivial
  have hgp : ∀ j, ((Array.replicate l.toArray.size false).setIfInBounds p true).getD j false = decide (j = p) := fun j => by
    by_cases hjp : j = p
    · subst hjp; rw [listed_set_self (by simpa using hps)]; simp
    · rw [getD_set_ne false (Ne.symm hjp), getD_replicate_false]; simp [hjp]
  have inv0 : PInv l.toArray n p ((Array.replicate l.toArray.size false).setIfInBounds p true) := by
    refine ⟨by simp, fun j oj hoj hl e he hb => ?_, fun t _ ht hne => ?_, by rw [hgp]; simp⟩
    · rw [hgp] at hl
      have hjp : j = p := by simpa using hl
      subst hjp
      obtain ⟨_, o', ho', hall⟩ := mem_ready.1 (show j ∈ Region.ready .any l.toArray (Array.replicate l.toArray.size false) by simpa using hrd)
      have : o' = oj := Option.some.inj (ho'.symm.trans hoj)
      subst this
      exact getD_set_true (hall e he hb)
    · rw [getD_set_ne true (Ne.symm hne)]
      exact getD_in (by simpa using ht) (getD_replicate_false _ _)
  have h0 : HP l.toArray n p (fun i => L.getD i fun _ _ => True) a1 w.drew ((Array.replicate l.toArray.size false).setIfInBounds p true) a1 w.drew :=
    ⟨inv0, Gr.same _, rfl, rfl, fun i d hin _ hl => (by rw [hgp] at hl; have : i = p := (by simpa using hl); omega), fun _ _ => rfl⟩
  have hopen : open_ n ((Array.replicate l.toArray.size false).setIfInBounds p true) = n := by
    unfold open_
    rw [List.filter_eq_self.2 fun i hi => by
      have hin := List.mem_range.1 hi
      have hne : i ≠ p := by omega
      rw [hgp]; simp [hne]]
    simp
  have := wpAny_of_chainP (P := P) (Q := Q) (n := n) (p := p) (js := js) (Vs := fun i => L.getD i fun _ _ => True) (a := a1) (w := w.drew) (l := l) hlast (Pan := fun c W => ∀ a', a'.defers = a1.defers → Q (.panic c) a' W) L hheads hnl hp hsink hchain
    (by simpa using hseq) (fun _ => rfl) (fun i o hi ho => l3 i o (by omega) ho) (fun c W hp a' hd => hp a' hd)
    (fun a' W hI => by
      have e : a' = lay l.toArray (fun i => a'.tmps.getD (((l.toArray[i]?).bind (·.dst)).getD 0) undef) n a1 := by
        have ed : a'.defers = (lay l.toArray (fun i => a'.tmps.getD (((l.toArray[i]?).bind (·.dst)).getD 0) undef) n a1).defers := by rw [lay_defers]; exact hI.defers
        have et : a'.tmps = (lay l.toArray (fun i => a'.tmps.getD (((l.toArray[i]?).bind (·.dst)).getD 0) undef) n a1).tmps := by
          refine Array.ext (by rw [lay_size]; exact hI.size) fun t h1 h2 => ?_
          have h3 : t < a1.tmps.size := by rw [← hI.size]; exact h1
          refine Option.some.inj ?_
          rw [← Array.getElem?_eq_getElem h1, ← Array.getElem?_eq_getElem h2]
          cases hf : fills l.toArray n t with
          | none =>
            rw [lay_other _ n a1 fun i hi => fills_none hf i hi]
            have := hI.rest t fun i hi hd => absurd hd (fills_none hf i hi)
            simp only [Array.getD_eq_getD_getElem?, Array.getElem?_eq_getElem h1, Array.getElem?_eq_getElem h3, Option.getD_some] at this
            rw [Array.getElem?_eq_getElem h1, Array.getElem?_eq_getElem h3, this]
          | some k =>
            obtain ⟨hk, hd⟩ := fills_some hf
            obtain ⟨o, d, hdk⟩ := hheads k hk
            have hdt : d = t := by rw [hdk.op] at hd; exact Option.some.inj (hdk.dst.symm.trans hd)
            subst hdt
            rw [lay_at _ n a1 hk hd h3 hdk.only, hd]
            simp only [Option.getD_some, Array.getD_eq_getD_getElem?, Array.getElem?_eq_getElem h1]
        cases a'; cases hlay : lay l.toArray _ n a1
        rw [hlay] at ed et
        simp only at ed et
        rw [ed, et]
      rw [e]
      have hl' : L.reverse.length = n := by rw [l4]; simp; omega
      refine l5 _ W ((Gr.drew w).tr hI.grow) ?_
      have hh := Holds.of (Ls := L.reverse) (vs := fun i => a'.tmps.getD (((l.toArray[i]?).bind (·.dst)).getD 0) undef) (W := W) fun i hi => by
        rw [List.reverse_reverse]
        have hin : i < n := by omega
        obtain ⟨o, d, hd⟩ := hheads i hin
        have hdd : (l.toArray[i]?).bind (·.dst) = some d := by rw [hd.op]; exact hd.dst
        have := hI.done i d hin hdd (by simp [halfP, hin, show i < l.length by omega])
        simp only [hdd, Option.getD_some]
        exact this
      rwa [hl'] at hh)
    n ((Array.replicate l.toArray.size false).setIfInBounds p true) a1 w.drew hopen h0
  exact this
end
end Go.Proofs.Ytofdoadpaedogaa
