import Derived.Test.YtcngaohfemdfjaaGreatF02
set_option linter.unusedVariables false
set_option linter.unusedSimpArgs false
set_option maxRecDepth 100000
set_option maxHeartbeats 60000000
namespace Go.Proofs.YtcngaohfemdfjaaGreat
open Go.RowKit
section
variable {P : Program} {ops : Array Oper} {Q : Exit → Act → World → Prop} {n : Nat} {Vs : Nat → VB} {a a' : Act} {w W W' : World} {listed : Array Bool}
def halfL (n j size : Nat) : Array Bool := ((List.range size).map fun i => decide (i < n) && decide (i ≠ j)).toArray
def sinkL (ops : Array Oper) (n j : Nat) : Bool :=
  (List.range n).all fun i => i == j || (List.range (n + 1)).any fun k => decide (i < k) && decide (k ≠ j) && Region.waitsFor .any ops k i
def lateOk (ops : Array Oper) (n j size : Nat) : Bool :=
  decide (n < ops.size) && decide (j < n) && (List.range n).all (fun k => headOk ops n k size) && sinkL ops n j && Region.chainB .any ops n &&
  decide (Region.ready .any ops (halfL n j ops.size) = [j, n]) && decide (Region.ready .any ops ((halfL n j ops.size).setIfInBounds n true) = [j]) &&
  Region.seqB .any ops (ops.size - n) n (half n ops.size) && Region.seqB .any ops (ops.size - n - 1) (n + 1) (((halfL n j ops.size).setIfInBounds n true).setIfInBounds j true)
theorem tail_waitsL {j : Nat} (hs : sinkL ops n j = true) (hc : Region.chainB .any ops n = true) (inv : HeadInv .any ops n listed) :
    ∀ (d i : Nat), n - i = d → i < n → i ≠ j → listed.getD i true = false → ∀ t, n ≤ t → t ∉ Region.ready .any ops listed := by
  intro d
  induction d using Nat.strongRecOn with
  | _ d ih =>
    intro i hd hi hij hun t ht hr
    obtain ⟨_, ot, hot, hall⟩ := mem_ready.1 hr
    have htlt : t < ops.size := (Array.getElem?_eq_some_iff.1 hot).1
    have h1 := List.all_eq_true.1 hs i (List.mem_range.2 hi)
    have h1' : (List.range (n + 1)).any (fun k => decide (i < k) && decide (k ≠ j) && Region.waitsFor .any ops k i) = true := by
      simp only [Bool.or_eq_true] at h1
      rcases h1 with h | h
      · exact absurd (by simpa using h) hij
      · exact h
    obtain ⟨k, hk, hk2⟩ := List.any_eq_true.1 h1'
    simp only [Bool.and_eq_true, decide_eq_true_eq] at hk2
    obtain ⟨⟨hik, hkj⟩, hwk⟩ := hk2
    have hkn : k ≤ n := by have := List.mem_range.1 hk; omega
    obtain ⟨ok, hok, e, he, hb, hon⟩ := Region.waitsFor_spec hwk
    by_cases hkl : k < n
    · have hkun : listed.getD k true = false := by
        have hks : k < listed.size := by rw [inv.size]; exact (Array.getElem?_eq_some_iff.1 hok).1
        cases hx : listed.getD k false with
        | false => exact getD_in hks hx
        | true =>
          have := inv.closed k ok hok hx e he hb
          rw [hon] at this
          rw [getD_both hun] at this
          cases this
      exact ih (n - k) (by omega) k rfl hkl hkj hkun t ht hr
    · have hkn' : k = n := by omega
      subst hkn'
      by_cases htk : t = k
      · subst htk
        have : ot = ok := Option.some.inj (hot.symm.trans hok)
        subst this
        have := hall e he hb
        rw [hon, getD_both hun] at this
        cases this
      · have h2 := List.all_eq_true.1 hc t (List.mem_range.2 htlt)
        simp only [Bool.or_eq_true, decide_eq_true_eq] at h2
        rcases h2 with h2 | h2
        · omega
        · obtain ⟨o2, ho2, e2, he2, hb2, hon2⟩ := Region.waitsFor_spec h2
          have : o2 = ot := Option.some.inj (ho2.symm.trans hot)
          subst this
          have h3 := hall e2 he2 hb2
          rw [hon2, getD_both (inv.tail (t - 1) (by omega) (by omega))] at h3
          cases h3
theorem wpAny_of_chainL {l : List Oper} {j : Nat} (hj : j < n) (hl : ∀ i, LastsB (Vs i)) {Pan : List PanicEntry → World → Prop} (L : List (Value → World → Prop))
    (hheads : ∀ k, k < n → ∃ o d, HeadOk l.toArray n a.tmps.size k o d) (hnl : n < l.length)
    (hs1 : sinkL l.toArray n j = true) (hc1 : Region.chainB .any l.toArray n = true)
    (hr1 : Region.ready .any l.toArray (halfL n j l.length) = [j, n]) (hr2 : Region.ready .any l.toArray ((halfL n j l.length).setIfInBounds n true) = [j])
    (hseq : Region.seqB .any l.toArray (l.length - n) n (half n l.length) = true)
    (hseq2 : Region.seqB .any l.toArray (l.length - n - 1) (n + 1) (((halfL n j l.length).setIfInBounds n true).setIfInBounds j true) = true)
    (hL : ∀ j, j < n → L.getD j (fun _ _ => True) = exB (Vs j)) (hs : ∀ i o, i < n → l.toArray[i]? = some o → StepB P l.toArray n a.tmps w Pan (L.take i) o (Vs i))
    (hP : ∀ c W, Pan c W → ∀ a', a'.defers = a.defers → Q (.panic c) a' W)
    (hfin : ∀ bs a' W, HB l.toArray n Vs bs a w (half n l.length) a' W → wpList P l.toArray Q (l.drop n) a' W)
    (hfin2 : ∀ bs a' W, HB l.toArray n Vs bs a w (halfL n j l.length) a' W → wpOp P l.toArray Q n (fun a1 W1 => wpOp P l.toArray Q j (fun a2 W2 => wpList P l.toArray Q (l.drop (n + 1)) a2 W2) a1 W1) a' W) :
    ∀ (c : Nat) (listed : Array Bool) (a' : Act) (W : World), open_ n listed = c → (∃ bs, HB l.toArray n Vs bs a w listed a' W) → wpAny P .any l.toArray Q (c + (l.length - n)) listed a' W := by
  intro c
  induction c with
  | zero =>
    intro listed a' W hc ⟨bs, h⟩
    have he : listed = half n l.length := by
      refine Array.ext (by rw [h.hi.inv.size]; simp [half]) fun i h1 h2 => ?_
      have h1' : i < l.length := by have := h.hi.inv.size; simp at this; omega
      by_cases hin : i < n
      · have := open_zero hc i hin
        simp only [Array.getD_eq_getD_getElem?, Array.getElem?_eq_getElem h1, Option.getD_some] at this
        simp [half, this, hin]
      · have := h.hi.inv.tail i (by omega) (by simpa using h1')
        simp only [Array.getD_eq_getD_getElem?, Array.getElem?_eq_getElem h1, Option.getD_some] at this
        simp [half, this, hin]
    subst he
    have h1 := wpAny_of_seq (md := .any) (Q' := Q) (P := P) (ops := l.toArray) (l.drop n) n (half n l.length) a' W (fun j => by simp [List.getElem?_drop]) (by simpa using hseq) (hfin bs a' W h)
    simpa using h1
  | succ c ih =>
    intro listed a' W hc ⟨bs, h⟩
    rw [show c + 1 + (l.length - n) = (c + (l.length - n)) + 1 by omega]
    have hsz : listed.size = l.length := by simpa using h.hi.inv.size
    have hex : ∃ i, i < n ∧ listed.getD i false = false := by
      apply Classical.byContradiction
      intro hno
      have : open_ n listed = 0 := by
        unfold open_
        rw [List.length_eq_zero_iff, List.filter_eq_nil_iff]
        intro i hi
        have hi' := List.mem_range.1 hi
        cases hx : listed.getD i false with
        | true => simp
        | false => exact absurd ⟨i, hi', hx⟩ hno
      omega
    have hready : Region.ready .any l.toArray listed ≠ [] := by
      obtain ⟨i, hi, hx, hleast⟩ := exists_first n hex
      obtain ⟨o, d, hd⟩ := hheads i hi
      have : i ∈ Region.ready .any l.toArray listed := by
        refine mem_ready.2 ⟨getD_in (by omega) hx, o, hd.op, fun e he hb => ?_⟩
        have := hleast e.on (hd.early e he hb)
        simpa using this
      intro h0
      rw [h0] at this
      cases this
    refine ⟨fun h0 => absurd h0 hready, fun i hi => ?_⟩
    rcases Nat.lt_or_ge i n with hin | hge
    · obtain ⟨o, d, hd⟩ := hheads i hin
      have hLi : ∀ j, j < i → (L.take i).getD j (fun _ _ => True) = exB (Vs j) := fun j hj => by
        rw [← hL j (by omega)]
        simp [hj]
      refine wpOp_mono (fun a'' W'' h' => ih _ a'' W'' ?_ h') (h.step hl hd hin hi hLi (hs i o hin hd.op) hP)
      have h1 := open_set (n := n) hin (by omega : i < listed.size) (getD_both (mem_ready.1 hi).1)
      omega
    · -- the tail's first one comes up ahead of the late one
      have hall : ∀ k, k < n → k ≠ j → listed.getD k false = true := fun k hk hkj => by
        cases hx : listed.getD k false with
        | true => rfl
        | false => exact absurd hi (tail_waitsL hs1 hc1 h.hi.inv _ k rfl hk hkj (getD_in (by omega) hx) i hge)
      have hjo : listed.getD j false = false := by
        obtain ⟨k, hk, hx⟩ := hex
        by_cases hkj : k = j
        · subst hkj; exact hx
        · rw [hall k hk hkj] at hx; cases hx
      have he : listed = halfL n j l.length := by
        refine Array.ext (by rw [h.hi.inv.size]; simp [halfL]) fun k h1 h2 => ?_
        have h1' : k < l.length := by omega
        by_cases hkn : k < n
        · by_cases hkj : k = j
          · subst hkj
            simp only [Array.getD_eq_getD_getElem?, Array.getElem?_eq_getElem h1, Option.getD_some] at hjo
            simp [halfL, hjo]
          · have := hall k hkn hkj
            simp only [Array.getD_eq_getD_getElem?, Array.getElem?_eq_getElem h1, Option.getD_some] at this
            simp [halfL, this, hkn, hkj]
        · have := h.hi.inv.tail k (by omega) (by simpa using h1')
          simp only [Array.getD_eq_getD_getElem?, Array.getElem?_eq_getElem h1, Option.getD_some] at this
          simp [halfL, this, hkn]
      have hc0 : c = 0 := by
        have h1 := open_set (n := n) hj (by omega : j < listed.size) hjo
        have h2 : open_ n (listed.setIfInBounds j true) = 0 := by
          unfold open_
          rw [List.length_eq_zero_iff, List.filter_eq_nil_iff]
          intro k hk
          have hk' := List.mem_range.1 hk
          by_cases hkj : k = j
          · subst hkj; rw [listed_set_self (by omega)]; simp
          · rw [getD_set_ne false (fun e => hkj e.symm), hall k hk' hkj]; simp
        omega
      subst he
      rw [hr1] at hi
      have hin : i = n := by
        rcases List.mem_cons.1 hi with e | e
        · omega
        · simpa using e
      subst hin
      rw [hc0, show 0 + (l.length - i) = (l.length - i - 1) + 1 by omega]
      refine wpOp_mono (fun a1 W1 h1 => ⟨fun h0 => (by rw [hr2] at h0; cases h0), fun k hk => ?_⟩) (hfin2 bs a' W h)
      rw [hr2] at hk
      have hkj : k = j := by simpa using hk
      subst hkj
      refine wpOp_mono (fun a2 W2 h2 => ?_) h1
      have h3 := wpAny_of_seq (md := .any) (Q' := Q) (P := P) (ops := l.toArray) (l.drop (i + 1)) (i + 1) _ a2 W2 (fun j => by simp [List.getElem?_drop]) (by rw [show (l.drop (i + 1)).length = l.length - i - 1 by simp; omega]; exact hseq2) h2
      rwa [show (l.drop (i + 1)).length = l.length - i - 1 by simp; omega] at h3
def layL (ops : Array Oper) (vs : Nat → Value) (j : Nat) : Nat → Act → Act
  | 0, a => a
  | k + 1, a => if k = j then layL ops vs j k a else (layL ops vs j k a).put ((ops[k]?).bind (·.dst)) (vs k)
theorem layL_defers (vs : Nat → Value) (j : Nat) : ∀ (k : Nat) (a : Act), (layL ops vs j k a).defers = a.defers
  | 0, _ => rfl
  | k + 1, a => by
    unfold layL
    split
    · exact layL_defers vs j k a
    · cases (ops[k]?).bind (·.dst) <;> simp [Act.put, layL_defers vs j k a]
theorem layL_size (vs : Nat → Value) (j : Nat) : ∀ (k : Nat) (a : Act), (layL ops vs j k a).tmps.size = a.tmps.size
  | 0, _ => rfl
  | k + 1, a => by
    unfold layL
    split
    · exact layL_size vs j k a
    · cases (ops[k]?).bind (·.dst) <;> simp [Act.put, layL_size vs j k a]
theorem layL_other (vs : Nat → Value) (j : Nat) {t : Tmp} : ∀ (k : Nat) (a : Act), (∀ i, i < k → i ≠ j → (ops[i]?).bind (·.dst) ≠ some t) → (layL ops vs j k a).tmps[t]? = a.tmps[t]?
  | 0, _, _ => rfl
  | k + 1, a, h => by
    unfold layL
    have h2 := layL_other vs j k a fun i hi => h i (by omega)
    split
    · exact h2
    · rename_i hkj
      have h1 := h k (by omega) hkj
      cases hd : (ops[k]?).bind (·.dst) with
      | none => simpa [Act.put] using h2
      | some d =>
        have hne : d ≠ t := fun e => h1 (by rw [hd, e])
        simp [Act.put, Array.getElem?_setIfInBounds_ne hne, h2]
theorem layL_at (vs : Nat → Value) (j : Nat) {d i : Nat} : ∀ (k : Nat) (a : Act), i < k → i ≠ j → (ops[i]?).bind (·.dst) = some d → d < a.tmps.size → (∀ i', i' < k → (ops[i']?).bind (·.dst) = some d → i' = i) → (layL ops vs j k a).tmps[d]? = some (vs i)
  | 0, _, h, _, _, _, _ => absurd h (by omega)
  | k + 1, a, hi, hij, hd, hs, hu => by
    unfold layL
    by_cases hik : i = k
    · subst hik
      rw [if_neg hij, hd]
      have : d < (layL ops vs j i a).tmps.size := by rw [layL_size]; exact hs
      simp [Act.put, this]
    · have h2 := layL_at vs j k a (by omega) hij hd hs fun i' hi' hid => hu i' (by omega) hid
      split
      · exact h2
      · cases hdk : (ops[k]?).bind (·.dst) with
        | none => simpa [Act.put] using h2
        | some d' =>
          have hne : d' ≠ d := fun e => hik (hu k (by omega) (by rw [hdk, e])).symm
          simp [Act.put, Array.getElem?_setIfInBounds_ne hne, h2]
def HoldsL (j : Nat) : List VB → Nat → (Nat → Value) → (Nat → Nat × Nat) → World → Prop
  | [], _, _, _, _ => True
  | V :: Bs, k, vs, bs, W => (if k - 1 = j then True else V (bs (k - 1)) (vs (k - 1)) W) ∧ HoldsL j Bs (k - 1) vs bs W
theorem HoldsL.of {j : Nat} {vs : Nat → Value} {bs : Nat → Nat × Nat} {W : World} : ∀ {Bs : List VB}, (∀ i, i < Bs.length → i ≠ j → (Bs.reverse.getD i fun _ _ _ => True) (bs i) (vs i) W) → HoldsL j Bs Bs.length vs bs W
  | [], _ => trivial
  | V :: Bs, h => by
    refine ⟨?_, ?_⟩
    · split
      · trivial
      · rename_i hk
        have := h Bs.length (by simp) (by simpa using hk)
        simpa using this
    · have := HoldsL.of (j := j) (Bs := Bs) (vs := vs) (bs := bs) (W := W) fun i hi hij => by
        have := h i (by simp; omega) hij
        rw [List.reverse_cons] at this
        simp only [List.getD_eq_getElem?_getD] at this ⊢
        rwa [List.getElem?_append_left (by simpa using hi)] at this
      simpa using this
theorem regionL {id : Nat} {l : List Oper} (n j : Nat) (hm : P.follows .mixedOrders = true) (hok : lateOk l.toArray n j a.tmps.size = true)
    (h : Chain2B P l.toArray n a.tmps w.drew (fun c W => ∀ a', a'.defers = a.defers → Q (.panic c) a' W) (l.take n) 0 [] fun Bs =>
      (∀ (vs : Nat → Value) (bs : Nat → Nat × Nat) (W : World), Gr w W → HoldsB Bs n vs bs W → (∀ i k, i < n → k < n → i ≠ k → (bs i).2 ≤ (bs k).1 ∨ (bs k).2 ≤ (bs i).1) → wpList P l.toArray Q (l.drop n) (lay l.toArray vs n a) W) ∧
      (∀ (vs : Nat → Value) (bs : Nat → Nat × Nat) (W : World), Gr w W → HoldsL j Bs n vs bs W → (∀ i k, i < n → k < n → i ≠ j → k ≠ j → i ≠ k → (bs i).2 ≤ (bs k).1 ∨ (bs k).2 ≤ (bs i).1) → wpOp P l.toArray Q n (fun a1 W1 => wpOp P l.toArray Q j (fun a2 W2 => wpList P l.toArray Q (l.drop (n + 1)) a2 W2) a1 W1) (layL l.toArray vs j n a) W)) :
    (Code.region id l.toArray true).wp P Q a w := by
  simp only [lateOk, Bool.and_eq_true, decide_eq_true_eq] at hok
  obtain ⟨⟨⟨⟨⟨⟨⟨⟨hn, hjn⟩, hh⟩, hsk⟩, hch⟩, hr1⟩, hr2⟩, hseq⟩, hseq2⟩ := hok
  have hnl : n < l.length := by simpa using hn
  have htl : (l.take n).length = n := by simp; omega
  obtain ⟨L, l1, l2, l3, l4⟩ := Chain2B.vs (l := l) (l.take n) 0 [] rfl (by simp) (fun j o hj => by omega) (fun j hj => by
    have hj' : j < n := by rw [htl] at hj; exact hj
    simp [hj']) h
  rw [htl] at l1 l3
  have hheads := heads_of hh
  have hlast : ∀ i, LastsB (L.reverse.getD i fun _ _ _ => True) := fun i => by
    rcases Nat.lt_or_ge i L.length with h' | h'
    · have hm := List.getElem_mem (l := L.reverse) (n := i) (by simpa using h')
      rw [show L.reverse.getD i (fun _ _ _ => True) = L.reverse[i]'(by simpa using h') by rw [List.getD_eq_getElem?_getD, List.getElem?_eq_getElem (by simpa using h')]; rfl]
      exact l2 _ (List.mem_reverse.1 hm)
    · rw [show L.reverse.getD i (fun _ _ _ => True) = fun _ _ _ => True by rw [List.getD_eq_getElem?_getD, List.getElem?_eq_none (by simpa using h')]; rfl]
      exact fun _ _ _ _ _ _ => trivial
  have inv0 : HeadInv .any l.toArray n (Array.replicate l.toArray.size false) :=
    ⟨by simp, fun j oj _ hl => (by rw [getD_replicate_false] at hl; cases hl), fun t _ ht => getD_in (by simpa using ht) (getD_replicate_false _ _)⟩
  have h0 : HB l.toArray n (fun i => L.reverse.getD i fun _ _ _ => True) (fun _ => (0, 0)) a w.drew (Array.replicate l.toArray.size false) a w.drew :=
    ⟨⟨inv0, Gr.same _, rfl, rfl, fun i d _ _ hl => (by rw [getD_replicate_false] at hl; cases hl), fun _ _ => rfl⟩, fun i d _ _ hl => (by rw [getD_replicate_false] at hl; cases hl), fun i j _ _ _ hl => (by rw [getD_replicate_false] at hl; cases hl), fun i _ hl => (by rw [getD_replicate_false] at hl; cases hl)⟩
  have hopen : open_ n (Array.replicate l.toArray.size false) = n := by
    unfold open_
    rw [List.filter_eq_self.2 fun i _ => by rw [getD_replicate_false]; rfl]
    simp
  refine wp_region_any hm ?_
  have := wpAny_of_chainL (P := P) (Q := Q) (n := n) (Vs := fun i => L.reverse.getD i fun _ _ _ => True) (a := a) (w := w.drew) (l := l) hjn hlast (Pan := fun c W => ∀ a', a'.defers = a.defers → Q (.panic c) a' W) (L.map exB).reverse hheads hnl hsk hch
    (by simpa using hr1) (by simpa using hr2) (by simpa using hseq) (by simpa using hseq2) (fun j hj => by
      rw [← List.map_reverse]
      simp only [List.getD_eq_getElem?_getD, List.getElem?_map]
      rw [List.getElem?_eq_getElem (by simp; omega)]
      rfl) (fun i o hi ho => l3 i o (by omega) ho) (fun c W hp a' hd => hp a' hd)
    (fun bs a' W hB => by
      have hI := hB.hi
      have e : a' = lay l.toArray (fun i => a'.tmps.getD (((l.toArray[i]?).bind (·.dst)).getD 0) undef) n a := by
        have ed : a'.defers = (lay l.toArray (fun i => a'.tmps.getD (((l.toArray[i]?).bind (·.dst)).getD 0) undef) n a).defers := by rw [lay_defers]; exact hI.defers
        have et : a'.tmps = (lay l.toArray (fun i => a'.tmps.getD (((l.toArray[i]?).bind (·.dst)).getD 0) undef) n a).tmps := by
          refine Array.ext (by rw [lay_size]; exact hI.size) fun t h1 h2 => ?_
          have h3 : t < a.tmps.size := by rw [← hI.size]; exact h1
          refine Option.some.inj ?_
          rw [← Array.getElem?_eq_getElem h1, ← Array.getElem?_eq_getElem h2]
          cases hf : fills l.toArray n t with
          | none =>
            rw [lay_other _ n a fun i hi => fills_none hf i hi]
            have := hI.rest t fun i hi hd => absurd hd (fills_none hf i hi)
            simp only [Array.getD_eq_getD_getElem?, Array.getElem?_eq_getElem h1, Array.getElem?_eq_getElem h3, Option.getD_some] at this
            rw [Array.getElem?_eq_getElem h1, Array.getElem?_eq_getElem h3, this]
          | some k =>
            obtain ⟨hk, hd⟩ := fills_some hf
            obtain ⟨o, d, hdk⟩ := hheads k hk
            have hdt : d = t := by rw [hdk.op] at hd; exact Option.some.inj (hdk.dst.symm.trans hd)
            subst hdt
            rw [lay_at _ n a hk hd h3 hdk.only, hd]
            simp only [Option.getD_some, Array.getD_eq_getD_getElem?, Array.getElem?_eq_getElem h1]
        cases a'; cases hlay : lay l.toArray _ n a
        rw [hlay] at ed et
        simp only at ed et
        rw [ed, et]
      rw [e]
      have hhalf : ∀ i, i < n → (half n l.length).getD i false = true := fun i hi => by simp [half, hi, show i < l.length by omega]
      have hho := HoldsB.of (Bs := L) (vs := fun i => a'.tmps.getD (((l.toArray[i]?).bind (·.dst)).getD 0) undef) (bs := bs) (W := W) fun i hi => by
        obtain ⟨o, d, hd⟩ := hheads i (by omega)
        have hdd : (l.toArray[i]?).bind (·.dst) = some d := by rw [hd.op]; exact hd.dst
        have := hB.done i d (by omega) hdd (hhalf i (by omega))
        simp only [hdd, Option.getD_some]
        exact this
      rw [show L.length = n by omega] at hho
      exact l4.1 _ bs W ((Gr.drew w).tr hI.grow) hho fun i j hi hj hij => hB.disj i j hi hj hij (hhalf i hi) (hhalf j hj))
    (fun bs a' W hB => by
      have hI := hB.hi
      have hhalf : ∀ i, i < n → i ≠ j → (halfL n j l.length).getD i false = true := fun i hi hij => by simp [halfL, hi, hij, show i < l.length by omega]
      have hjf : (halfL n j l.length).getD j false = false := by simp [halfL, show j < l.length by omega]
      have e : a' = layL l.toArray (fun i => a'.tmps.getD (((l.toArray[i]?).bind (·.dst)).getD 0) undef) j n a := by
        have ed : a'.defers = (layL l.toArray (fun i => a'.tmps.getD (((l.toArray[i]?).bind (·.dst)).getD 0) undef) j n a).defers := by rw [layL_defers]; exact hI.defers
        have et : a'.tmps = (layL l.toArray (fun i => a'.tmps.getD (((l.toArray[i]?).bind (·.dst)).getD 0) undef) j n a).tmps := by
          refine Array.ext (by rw [layL_size]; exact hI.size) fun t h1 h2 => ?_
          have h3 : t < a.tmps.size := by rw [← hI.size]; exact h1
          refine Option.some.inj ?_
          rw [← Array.getElem?_eq_getElem h1, ← Array.getElem?_eq_getElem h2]
          cases hf : fills l.toArray n t with
          | none =>
            rw [layL_other _ j n a fun i hi _ => fills_none hf i hi]
            have := hI.rest t fun i hi hd => absurd hd (fills_none hf i hi)
            simp only [Array.getD_eq_getD_getElem?, Array.getElem?_eq_getElem h1, Array.getElem?_eq_getElem h3, Option.getD_some] at this
            rw [Array.getElem?_eq_getElem h1, Array.getElem?_eq_getElem h3, this]
          | some k =>
            obtain ⟨hk, hd⟩ := fills_some hf
            obtain ⟨o, d, hdk⟩ := hheads k hk
            have hdt : d = t := by rw [hdk.op] at hd; exact Option.some.inj (hdk.dst.symm.trans hd)
            subst hdt
            by_cases hkj : k = j
            · subst hkj
              rw [layL_other _ k n a fun i hi hik hid => hik (hdk.only i hi hid)]
              have := hI.rest d fun i hi hid => by rw [hdk.only i hi hid]; exact hjf
              simp only [Array.getD_eq_getD_getElem?, Array.getElem?_eq_getElem h1, Array.getElem?_eq_getElem h3, Option.getD_some] at this
              rw [Array.getElem?_eq_getElem h1, Array.getElem?_eq_getElem h3, this]
            · rw [layL_at _ j n a hk hkj hd h3 hdk.only, hd]
              simp only [Option.getD_some, Array.getD_eq_getD_getElem?, Array.getElem?_eq_getElem h1]
        cases a'; cases hlay : layL l.toArray _ j n a
        rw [hlay] at ed et
        simp only at ed et
        rw [ed, et]
      rw [e]
      have hho := HoldsL.of (j := j) (Bs := L) (vs := fun i => a'.tmps.getD (((l.toArray[i]?).bind (·.dst)).getD 0) undef) (bs := bs) (W := W) fun i hi hij => by
        obtain ⟨o, d, hd⟩ := hheads i (by omega)
        have hdd : (l.toArray[i]?).bind (·.dst) = some d := by rw [hd.op]; exact hd.dst
        have := hB.done i d (by omega) hdd (hhalf i (by omega) hij)
        simp only [hdd, Option.getD_some]
        exact this
      rw [show L.length = n by omega] at hho
      exact l4.2 _ bs W ((Gr.drew w).tr hI.grow) hho fun i k hi hk hij hkj hik => hB.disj i k hi hk hik (hhalf i hi hij) (hhalf k hk hkj))
    n (Array.replicate l.toArray.size false) a w.drew hopen ⟨_, h0⟩
  rw [show n + (l.length - n) = l.toArray.size by simp; omega] at this
  exact this
end
theorem wpOp_two {P : Program} {l : List Oper} {Q : Exit → Act → World → Prop} {n j : Nat} {on oj : Oper} {a : Act} {W : World} (hn : l[n]? = some on) (hj : l[j]? = some oj) (h : wpList P l.toArray Q (on :: oj :: l.drop (n + 1)) a W) :
    wpOp P l.toArray Q n (fun a1 W1 => wpOp P l.toArray Q j (fun a2 W2 => wpList P l.toArray Q (l.drop (n + 1)) a2 W2) a1 W1) a W := by
  have e1 : l.toArray[n]? = some on := by simpa using hn
  have e2 : l.toArray[j]? = some oj := by simpa using hj
  simp only [wpOp, e1, e2]
  simpa [wpList] using h
end Go.Proofs.YtcngaohfemdfjaaGreat
