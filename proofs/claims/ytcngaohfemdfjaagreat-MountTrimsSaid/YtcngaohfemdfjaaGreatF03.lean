import Derived.Test.YtcngaohfemdfjaaGreatF01
import Derived.Defers
import Derived.Laws.Pointers
import Derived.Recover
set_option linter.unusedVariables false
set_option linter.unusedSimpArgs false
set_option maxRecDepth 100000
set_option maxHeartbeats 60000000
namespace Go.Proofs.YtcngaohfemdfjaaGreat
open Go.RowKit
section
variable {P : Program} {ops : Array Oper} {Q : Exit → Act → World → Prop} {md : Region.Mode} {n p : Nat} {Vs : Nat → Value → World → Prop} {a a' : Act} {w W W' : World} {listed : Array Bool}
structure PInv (ops : Array Oper) (n p : Nat) (listed : Array Bool) : Prop where
  size : listed.size = ops.size
  closed : ∀ j oj, ops[j]? = some oj → listed.getD j false = true → ∀ e ∈ oj.after, Region.binds .any e = true → listed.getD e.on false = true
  tail : ∀ t, n ≤ t → t < ops.size → t ≠ p → listed.getD t true = false
  took : listed.getD p false = true
theorem PInv.set {i : Nat} (inv : PInv ops n p listed) (hi : i ∈ Region.ready .any ops listed) (hin : i < n) : PInv ops n p (listed.setIfInBounds i true) := by
  obtain ⟨_, oi, hoi, hall⟩ := mem_ready.1 hi
  refine ⟨by simp [inv.size], fun j oj hj hl e he hb => ?_, fun t ht ht' hp => by rw [getD_set_ne true (by omega)]; exact inv.tail t ht ht' hp, getD_set_true inv.took⟩
  by_cases hij : i = j
  · subst hij
    have : oj = oi := Option.some.inj (hj.symm.trans hoi)
    subst this
    exact getD_set_true (hall e he hb)
  · rw [getD_set_ne false hij] at hl
    exact getD_set_true (inv.closed j oj hj hl e he hb)
structure HP (ops : Array Oper) (n p : Nat) (Vs : Nat → Value → World → Prop) (a : Act) (w : World) (listed : Array Bool) (a' : Act) (W : World) : Prop where
  inv : PInv ops n p listed
  grow : Gr w W
  defers : a'.defers = a.defers
  size : a'.tmps.size = a.tmps.size
  done : ∀ i d, i < n → (ops[i]?).bind (·.dst) = some d → listed.getD i false = true → Vs i (a'.tmps.getD d undef) W
  rest : ∀ t, (∀ i, i < n → (ops[i]?).bind (·.dst) = some t → listed.getD i false = false) → a'.tmps.getD t undef = a.tmps.getD t undef
theorem HP.set (h : HP ops n p Vs a w listed a' W) (hl : ∀ i, Lasts (Vs i)) {i d : Nat} {o : Oper} (hd : HeadOk ops n a.tmps.size i o d) (hin : i < n) (hr : i ∈ Region.ready .any ops listed) {v : Value} (hv : Vs i v W') (hg : Gr W W') :
    HP ops n p Vs a w (listed.setIfInBounds i true) (a'.put (some d) v) W' := by
  have his : i < listed.size := by
    rw [h.inv.size]; exact (Array.getElem?_eq_some_iff.1 hd.op).1
  have hdd : (ops[i]?).bind (·.dst) = some d := by rw [hd.op]; exact hd.dst
  refine ⟨h.inv.set hr hin, h.grow.tr hg, h.defers, by simpa [Act.put] using h.size, fun j e hj hje hl' => ?_, fun t ht => ?_⟩
  · by_cases hij : i = j
    · subst hij
      have : d = e := Option.some.inj (hdd.symm.trans hje)
      subst this
      have hs : d < a'.tmps.size := by rw [h.size]; exact hd.lt
      simpa [Act.put, hs] using hv
    · rw [getD_set_ne false hij] at hl'
      have hne : d ≠ e := fun e' => hij (hd.only j hj (by rw [hje, e'])).symm
      have := hl j _ _ _ (h.done j e hj hje hl') hg
      simpa [Act.put, Array.getElem?_setIfInBounds_ne hne] using this
  · have hne : d ≠ t := fun e => by
      have := ht i hin (by rw [hdd, e])
      rw [listed_set_self his] at this
      cases this
    have := h.rest t fun j hj hjt => by
      have h1 := ht j hj hjt
      by_cases hij : i = j
      · subst hij; exact absurd (Option.some.inj (hdd.symm.trans hjt)) hne
      · rwa [getD_set_ne false hij] at h1
    simpa [Act.put, Array.getElem?_setIfInBounds_ne hne] using this
theorem HP.step (h : HP ops n p Vs a w listed a' W) (hl : ∀ i, Lasts (Vs i)) {L : List (Value → World → Prop)} {Pan : List PanicEntry → World → Prop} {i d : Nat} {o : Oper} (hd : HeadOk ops n a.tmps.size i o d) (hin : i < n) (hr : i ∈ Region.ready .any ops listed)
    (hL : ∀ j, j < i → L.getD j (fun _ _ => True) = Vs j) (hs : Step P ops n a.tmps w Pan L o (Vs i))
    (hP : ∀ c W, Pan c W → ∀ a', a'.defers = a.defers → Q (.panic c) a' W) :
    wpOp P ops Q i (HP ops n p Vs a w (listed.setIfInBounds i true)) a' W := by
  obtain ⟨_, oi, hoi, hall⟩ := mem_ready.1 hr
  have : oi = o := Option.some.inj (hoi.symm.trans hd.op)
  subst this
  have hf : Facts ops n L a.tmps a'.eval W (looks ops oi) := Facts.mk fun t ht => by
    unfold Fact
    cases hfl : fills ops n t with
    | none =>
      exact h.rest t fun j hj hjt => absurd hjt (fills_none hfl j hj)
    | some j =>
      obtain ⟨hjn, hjd⟩ := fills_some hfl
      obtain ⟨hji, hw⟩ := hd.sees t ht j hfl
      obtain ⟨oj, hoj, e, he, hb, hon⟩ := Region.waitsFor_spec hw
      have : oj = oi := Option.some.inj (hoj.symm.trans hd.op)
      subst this
      have h1 := hall e he hb
      rw [hon] at h1
      have h2 := h.done j t hjn hjd h1
      simp only [hL j hji]
      exact h2
  obtain ⟨s1, s2⟩ := hs a'.eval W (Plain.eval a') h.grow hf
  unfold wpOp
  simp only [hd.op]
  by_cases hw : Region.wanted oi (yielded ops a'.tmps) = true
  · rw [if_pos hw]
    refine .inl ?_
    have h1 := s1 (lets_of_wanted.1 hw)
    unfold Oper.wp
    have key : ∀ v W', Vs i v W' → Gr W W' → HP ops n p Vs a w (listed.setIfInBounds i true) (a'.put (some d) v) W' := fun v W' hv hg => h.set hl hd hin hr hv hg
    cases hrun : (execOp a'.eval oi).run P W with
    | ok nx w' =>
      rw [hrun] at h1
      cases nx <;> simp only [Gives] at h1 <;> simp only [Oper.upon, hd.dst]
      case value v => exact key _ _ h1.1 h1.2
      case skip => exact key _ _ h1.1 h1.2
      case enter f args =>
        refine h1.2.mono fun e w'' he => ?_
        cases e with
        | returned v => exact key _ _ he.1 (h1.1.tr he.2)
        | panicked c => exact hP _ _ he _ h.defers
        | outgrown => exact he.elim
    | halt x w' =>
      rw [hrun] at h1
      cases x <;> simp only [Gives] at h1
      case panic v => exact hP _ _ h1 _ h.defers
  · rw [if_neg hw, hd.dst]
    exact h.set hl hd hin hr (s2 fun hl' => hw (lets_of_wanted.2 hl')) (Gr.same W)
end
theorem wraps_i64 (n : Int) (h0 : 0 ≤ n) (h1 : n < 2 ^ 63) : IntKind.i64.wrap n = n := by rw [IntKind.wrap_i64]; omega
def p1 (m : Int) : Int := IntKind.u64.wrap (bits BinOp.and IntKind.u64 (m / 2) 6148914691236517205 + bits BinOp.and IntKind.u64 m 6148914691236517205)
def p2 (m : Int) : Int := IntKind.u64.wrap (bits BinOp.and IntKind.u64 (m / 4) 3689348814741910323 + bits BinOp.and IntKind.u64 m 3689348814741910323)
def p3 (m : Int) : Int := bits BinOp.and IntKind.u64 (IntKind.u64.wrap (m / 16 + m)) 1085102592571150095
def p4 (m : Int) : Int := IntKind.u64.wrap (m + m / 256)
def p5 (m : Int) : Int := IntKind.u64.wrap (m + m / 65536)
def p6 (m : Int) : Int := IntKind.u64.wrap (m + m / 4294967296)
def q1 (m : Nat) : Nat := (m / 2 &&& 6148914691236517205) + (m &&& 6148914691236517205)
def q2 (m : Nat) : Nat := (m / 4 &&& 3689348814741910323) + (m &&& 3689348814741910323)
def q3 (m : Nat) : Nat := (m / 16 + m) &&& 1085102592571150095
def cnt (m : Nat) : Nat := ((List.range 12).filter fun i => m.testBit i).length
theorem pow_lt (k : Nat) (h : k < 12) : 2 ^ k < 4096 := by
  have := Nat.pow_lt_pow_right (a := 2) (by omega) h
  simpa using this
theorem shl_in (k : Nat) (h : k < 12) : wrap64 (2 ^ k) = ((2 ^ k : Nat) : Int) := by
  have := pow_lt k h
  rw [show ((2 : Int) ^ k) = ((2 ^ k : Nat) : Int) from by simp]
  generalize 2 ^ k = p at *
  rw [IntWalk.wrap64_in _ ⟨by omega, by omega⟩]
theorem or_set (m k : Nat) (h : m < 4096) (hk : k < 12) : bits BinOp.or IntKind.i64 (m : Int) (wrap64 (2 ^ k)) = ((m ||| 2 ^ k : Nat) : Int) := by
  have := pow_lt k hk
  rw [shl_in k hk]
  exact (bits_nat .i64 63 (by decide) wraps_i64 m (2 ^ k) (by omega) (by omega)).2
theorem and_set (m k : Nat) (h : m < 4096) (hk : k < 12) : (bits BinOp.and IntKind.i64 (m : Int) (wrap64 (2 ^ k)) != 0) = m.testBit k := by
  have := pow_lt k hk
  rw [shl_in k hk, (bits_nat .i64 63 (by decide) wraps_i64 m (2 ^ k) (by omega) (by omega)).1]
  cases hb : m.testBit k with
  | true =>
    rw [bne_iff_ne]
    intro h0
    have h0' : m &&& 2 ^ k = 0 := by omega
    have h2 : (m &&& 2 ^ k).testBit k = true := by simp [Nat.testBit_and, hb]
    rw [h0'] at h2
    simp at h2
  | false =>
    have h0 : m &&& 2 ^ k = 0 := by
      apply Nat.eq_of_testBit_eq
      intro i
      rw [Nat.testBit_and, Nat.testBit_two_pow, Nat.zero_testBit]
      by_cases e : k = i
      · subst e; simp [hb]
      · simp [e]
    rw [h0]
    rfl
theorem with_any (m k : Nat) (w : World) (h0 : k < 12) (h1 : m < 4096) :
    Calls Tryz.prog 137 #[.int .i64 m, .int .i64 k] w fun e w' => e = .returned (.int .i64 ((m ||| 2 ^ k : Nat) : Int)) ∧ Below w.heap.size w w' := by
  have e1 := Lib.hid (or_set m k h1 h0)
  go_enter Tryz.func137, Tryz.ntmps137
  go_wp2
  go_ret
  exact ⟨congrArg (fun x => Ending.returned (.int .i64 x)) (by first | exact e1.out | simpa using e1.out), Below.refl _ _⟩
theorem has_any (m k : Nat) (w : World) (h0 : k < 12) (h1 : m < 4096) :
    Calls Tryz.prog 140 #[.int .i64 m, .int .i64 k] w fun e w' => e = .returned (.bool (m.testBit k)) ∧ Below w.heap.size w w' := by
  have e1 := Lib.hid (and_set m k h1 h0)
  go_enter Tryz.func140, Tryz.ntmps140
  go_wp2
  go_ret
  exact ⟨congrArg (fun x => Ending.returned (.bool x)) (by first | exact e1.out | simpa using e1.out), Below.refl _ _⟩
theorem require_ok (k : Int) (w : World) :
    Calls Tryz.prog 81 #[.bool true, .int .i64 k] w fun e w' => e = .returned (.tuple #[]) ∧ Below w.heap.size w w' := by
  go_enter Tryz.func81, Tryz.ntmps81
  go_wp2
  go_end0
  exact ⟨rfl, Below.refl _ _⟩
theorem require_no (k : Int) (w : World) :
    Calls Tryz.prog 81 #[.bool false, .int .i64 k] w fun e w' => e = .panicked [{ v := .iface 32 (.int .i64 k), recovered := false }] ∧ Below w.heap.size w w' := by
  go_enter Tryz.func81, Tryz.ntmps81
  go_wp2
  exact ⟨rfl, rfl, Below.refl _ _⟩
theorem errorOf_any (k : Int) (w : World) :
    Calls Tryz.prog 113 #[.iface 32 (.int .i64 k)] w fun e w' => e = .returned (.int .i64 k) ∧ Below w.heap.size w w' := by
  have hta : ∀ w, (Instr.typeAssert (.iface 32 (.int .i64 k)) 20 32 true).run Tryz.prog w = .ok (.tuple #[.int .i64 k, .bool true]) w := fun w => by kernel_rfl
  go_enter Tryz.func113, Tryz.ntmps113
  go_wp2
  go_ret
  exact ⟨rfl, Below.refl _ _⟩
def okSp (lo hi : Int) (p : Int × Int) : Bool := decide (p.1 ≤ p.2) && decide (lo ≤ p.1) && decide (p.2 ≤ hi)
theorem all_snoc (f : Int × Int → Bool) (l : List (Int × Int)) (k : Nat) (h : k < l.length) (h1 : (l.take k).all f = true) (h2 : f (l.getD k (0, 0)) = true) : (l.take (k + 1)).all f = true := by
  rw [List.take_succ_eq_append_getElem h, List.all_append, h1]
  simpa [h] using h2
theorem all_no (f : Int × Int → Bool) (l : List (Int × Int)) (k : Nat) (h : k < l.length) (h2 : f (l.getD k (0, 0)) = false) : l.all f = false := by
  rw [List.all_eq_false]
  exact ⟨l[k], List.getElem_mem h, by simpa [h] using h2⟩
theorem within_any (lo hi : Int) (v : Value) (l : List (Int × Int)) (w : World) (h : SpansAt l v w) :
    Calls Tryz.prog 150 #[.agg #[.int .i64 lo, .int .i64 hi], v] w fun e w' => e = .returned (.bool (l.all (okSp lo hi))) ∧ Below w.heap.size w w' := by
  obtain ⟨b, o, cap, rfl, hb, hlen, hc⟩ := h
  go_enter Tryz.func150, Tryz.ntmps150
  go_wp2
  have hal := @cal
  have hfl := @fal
  go_loopw [9] (fun i wr => ∃ k : Nat, k ≤ l.length ∧ i = .int .i64 k ∧ Below w.heap.size w wr ∧ (l.take k).all (okSp lo hi) = true ∧ ∃ T, Box wr w.heap.size [.int .i64 lo, .int .i64 hi] T) (fun i _ => l.length - (intOf i).toNat)
  case atStart =>
    exact ⟨0, Nat.zero_le _, rfl, (Below.refl _ _).alloc (Nat.le_refl _) _, by simp, 23, (Box.fresh w _ _)⟩
  case round =>
    obtain ⟨k, hk, rfl, hB, hall, T, b1⟩ := hrel
    have HB1 := Lib.hid b1
    have ⟨c10, c11, f10, f11, l1⟩ := b1.two
    have HA := Lib.hid hall
    clear hall b1
    by_cases hlt : k < l.length
    · have hbb : b < wr.heap.size := Nat.lt_of_lt_of_le hb hB.size
      have ⟨hx, hy⟩ := hc k hlt
      rw [← hB.cell (p := ⟨b, _, none⟩) hb] at hx hy
      clear hc
      have HN := Lib.hid (all_no (okSp lo hi) l k hlt)
      have HS := Lib.hid (all_snoc (okSp lo hi) l k hlt HA.out)
      generalize l.getD k (0, 0) = p at *
      have hG : ∀ w1, Gr (wr.alloc (Obj.cells #[Value.int IntKind.i64 p.fst, Value.int IntKind.i64 p.snd] 23)) w1 → Below w.heap.size w w1 := fun w1 h => bgr (bgr hB hB.size (Gr.alloc _ _)) (by simp; omega) h
      have HG := Lib.hid hG
      clear hG
      by_cases h1 : p.2 < p.1
      · have d1 : decide (p.2 < p.1) = true := by simpa using h1
        have e1 := Lib.hid (HN.out (by simp [okSp]; omega))
        go_wp2_with (go_at_call 116; refine (empty_any _ _ _).mono ?_; rintro e w1 ⟨rfl, hb1⟩; obtain ⟨hc1, hf1, hz1⟩ := bcell hb1)
        go_ret
        exact ⟨congrArg (fun x => Ending.returned (.bool x)) e1.out.symm, HG.out _ hb1⟩
      · have d1 : decide (p.2 < p.1) = false := by simpa using h1
        by_cases h2 : p.1 < lo
        · have d2 : decide (p.1 < lo) = true := by simpa using h2
          have e1 := Lib.hid (HN.out (by simp [okSp]; omega))
          go_wp2_with (go_at_call 116; refine (empty_any _ _ _).mono ?_; rintro e w1 ⟨rfl, hb1⟩; obtain ⟨hc1, hf1, hz1⟩ := bcell hb1)
          go_ret
          exact ⟨congrArg (fun x => Ending.returned (.bool x)) e1.out.symm, HG.out _ hb1⟩
        · have d2 : decide (p.1 < lo) = false := by simpa using h2
          by_cases h3 : hi < p.2
          · have d3 : decide (hi < p.2) = true := by simpa using h3
            have e1 := Lib.hid (HN.out (by simp [okSp]; omega))
            go_wp2_with (go_at_call 116; refine (empty_any _ _ _).mono ?_; rintro e w1 ⟨rfl, hb1⟩; obtain ⟨hc1, hf1, hz1⟩ := bcell hb1)
            go_ret
            exact ⟨congrArg (fun x => Ending.returned (.bool x)) e1.out.symm, HG.out _ hb1⟩
          · have d3 : decide (hi < p.2) = false := by simpa using h3
            have e1 := Lib.hid (HS.out (by simp [okSp]; omega))
            go_wp2_with (go_at_call 116; refine (empty_any _ _ _).mono ?_; rintro e w1 ⟨rfl, hb1⟩; obtain ⟨hc1, hf1, hz1⟩ := bcell hb1)
            exact ⟨⟨k + 1, by omega, by go_num, HG.out _ hb1, e1.out, T, (HB1.out.grow (Gr.alloc _ _)).grow hb1⟩, by simp [intOf]; omega⟩
    · have : k = l.length := by omega
      subst this
      have e1 : l.all (okSp lo hi) = true := by simpa using HA.out
      have E1 := Lib.hid e1
      clear e1
      go_wp2
      go_ret
      exact ⟨congrArg (fun x => Ending.returned (.bool x)) E1.out.symm, hB⟩
theorem catch71_panicking (b : Nat) (x k : Int) (older : List PanicEntry) (w : World) (hc : w.cell? ⟨b, 0, none⟩ = some (.int .i64 x)) (hz : w.frozen? ⟨b, 0, none⟩ = false) (hs : b < w.heap.size) :
    CallsD Tryz.prog 117 #[.pointer (some ⟨b, 0, none⟩)] (.panicking ({ v := .iface 32 (.int .i64 k), recovered := false } :: older)) w fun e u' w' =>
      e = .returned (.tuple #[]) ∧ u' = .panicking ({ v := .iface 32 (.int .i64 k), recovered := true } :: older) ∧ ∃ w1, Below w.heap.size w w1 ∧ w' = w1.setCell ⟨b, 0, none⟩ (.int .i64 k) := by
  refine callsD_of_wpS Tryz.func117 rfl fun c₀ cs hu => ?_
  apply wpS_seq
  apply wpS_region
  simp [wpOpsS, go_sem, recoverD, hu, Tryz.ntmps117, Exit.thenS]
  refine wpS_of_wp ?_
  clear hu
  simp only [Array.replicate_succ, Array.replicate_zero, List.push_toArray, List.append_toArray, List.nil_append, List.cons_append, List.setIfInBounds_toArray, List.set_cons_succ, List.set_cons_zero]
  go_wp2_with (go_at_call 113; refine (errorOf_any _ _).mono ?_; rintro e w1 ⟨rfl, hb1⟩; obtain ⟨hc1, hf1, hz1⟩ := bcell hb1)
  refine ⟨rfl, _, rfl, _, by simp [results, Tryz.results117, go_sem], rfl, rfl, w1, hb1, rfl⟩
theorem catch71_idle (p : Addr) (w : World) :
    CallsD Tryz.prog 117 #[.pointer (some p)] .returning w fun e u' w' => e = .returned (.tuple #[]) ∧ u' = .returning ∧ w' = w := by
  refine callsD_of_wpS Tryz.func117 rfl fun c₀ cs hu => ?_
  apply wpS_seq
  apply wpS_region
  simp [wpOpsS, go_sem, recoverD, hu, Tryz.ntmps117, Exit.thenS]
  refine wpS_of_wp ?_
  simp only [Array.replicate_succ, Array.replicate_zero, List.push_toArray, List.append_toArray, List.nil_append, List.cons_append, List.setIfInBounds_toArray, List.set_cons_succ, List.set_cons_zero]
  have HU := Lib.hid hu
  clear hu
  go_wp2
  refine ⟨rfl, c₀.mode, by cases c₀; rfl, _, by simp [results, Tryz.results117, go_sem], rfl, HU.out, rfl⟩
inductive Wit where
  | mark (m : Int)
  | far (n f : Int)
def Wit.val : Wit → Value
  | .mark m => .iface 197 (.int .i64 m)
  | .far n f => .iface 196 (.agg #[.int .i64 n, .int .i64 f])
def Wit.powers : Wit → Int × Int → Int × Int
  | .mark m, s => (s.1 * m, (s.2 + 1) * m - 1)
  | .far n f, s => (s.1 * n, (s.2 + 1) * f - 1)
def Wit.ok : Wit → Prop
  | .mark m => 0 ≤ m ∧ m ≤ 1073741824
  | .far n f => 0 ≤ n ∧ n ≤ 1073741824 ∧ 0 ≤ f ∧ f ≤ 1073741824
structure Sg where
  wit : Wit
  lo : Int
  hi : Int
  sl : Bool
def Sg.val (s : Sg) : Value := .agg #[s.wit.val, .int .i64 s.lo, .int .i64 s.hi, .bool s.sl]
def Sg.ok (s : Sg) : Prop := s.wit.ok ∧ -8000 ≤ s.lo ∧ s.lo ≤ 8000 ∧ -8000 ≤ s.hi ∧ s.hi ≤ 8000
def Sg.st (s : Sg) : Int × Int := ovl (s.lo, s.hi) (0, 2000)
theorem Sg.st_in {s : Sg} (h : s.ok) : -10000 ≤ s.st.1 ∧ s.st.1 ≤ 10000 ∧ -10000 ≤ s.st.2 ∧ s.st.2 ≤ 10000 := by
  obtain ⟨_, h1, h2, h3, h4⟩ := h
  unfold Sg.st ovl
  simp only
  refine ⟨?_, ?_, ?_, ?_⟩ <;> split <;> omega
def Sg.pw (s : Sg) : Int × Int := s.wit.powers s.st
def Sg.spw (s : Sg) : Int × Int := if s.sl then (1, 0) else s.pw
theorem me_mark_powers (m : Int) (w : World) : (method 319 197 (.int .i64 m) "pairworks/pair.powers").run Tryz.prog w = .ok (180, .int .i64 m) w := by kernel_rfl
theorem me_far_powers (n f : Int) (w : World) : (method 319 196 (.agg #[.int .i64 n, .int .i64 f]) "pairworks/pair.powers").run Tryz.prog w = .ok (178, .agg #[.int .i64 n, .int .i64 f]) w := by kernel_rfl
theorem steadyPower_mark (m : Int) (lo hi : Int) (w : World) (b : -10000 ≤ (ovl (lo, hi) (0, 2000)).1 ∧ (ovl (lo, hi) (0, 2000)).1 ≤ 10000 ∧ -10000 ≤ (ovl (lo, hi) (0, 2000)).2 ∧ (ovl (lo, hi) (0, 2000)).2 ≤ 10000) (h4 : 0 ≤ m) (h5 : m ≤ 1073741824) :
    Calls Tryz.prog 141 #[.agg #[.iface 197 (.int .i64 m), .int .i64 lo, .int .i64 hi, .bool false]] w fun e w' => e = .returned (.agg #[.int .i64 ((ovl (lo, hi) (0, 2000)).1 * m), .int .i64 (((ovl (lo, hi) (0, 2000)).2 + 1) * m - 1)]) ∧ Below w.heap.size w w' := by
  obtain ⟨b0, b1, b2, b3⟩ := b
  have hme := fun w => me_mark_powers m w
  go_enter Tryz.func141, Tryz.ntmps141
  go_wp2
  refine region2 7 ?_ ?_ ?_
  · kernel_rfl
  · kernel_rfl
  simp only [List.take_succ_cons, List.take_zero, List.drop_succ_cons, List.drop_zero]
  apply ceq (D := [(1, none)]) rfl (by kernel_rfl)
  · intro ρ W ⟨p1,p2,p3⟩ hG hF K hK; (try simp [FD] at hF); have ⟨hc, hf, hz⟩ := bcell hG; go_simp; exact hK _ gv
  apply ceq (D := [(6, some 0)]) rfl (by kernel_rfl)
  · intro ρ W ⟨p1,p2,p3⟩ hG hF K hK; (try simp [FD] at hF); have ⟨hc, hf, hz⟩ := bcell hG; go_simp; exact hK _ gv
  apply ceq (D := [(1, none)]) rfl (by kernel_rfl)
  · intro ρ W ⟨p1,p2,p3⟩ hG hF K hK; (try simp [FD] at hF); have ⟨hc, hf, hz⟩ := bcell hG; go_simp; exact hK _ gv
  apply ceq (D := [(8, some 0)]) rfl (by kernel_rfl)
  · intro ρ W ⟨p1,p2,p3⟩ hG hF K hK; (try simp [FD] at hF); have ⟨hc, hf, hz⟩ := bcell hG; go_simp; exact hK _ (gc (steady_any _ _ _ _ _))
  apply ceq (D := [(7, some 2)]) rfl (by kernel_rfl)
  · intro ρ W ⟨p1,p2,p3⟩ hG hF K hK; (try simp [FD] at hF); have ⟨hc, hf, hz⟩ := bcell hG; go_simp; exact hK _ gv
  apply ceq (D := [(7, some 3)]) rfl (by kernel_rfl)
  · intro ρ W ⟨p1,p2,p3⟩ hG hF K hK; (try simp [FD] at hF); have ⟨hc, hf, hz⟩ := bcell hG; go_simp; exact hK _ gv
  apply ceq (D := [(11, some 0), (9, some 2)]) rfl (by kernel_rfl)
  · intro ρ W ⟨p1,p2,p3⟩ hG hF K hK; (try simp [FD] at hF); have ⟨hc, hf, hz⟩ := bcell hG; go_simp; exact hK _ (gc (markPowers_any _ _ _ _ b0 b1 b2 b3 h4 h5))
  refine cdn ?_
  intro vs W hG hV
  obtain ⟨e6, -⟩ := hV
  simp only [Nat.reduceSub] at e6
  simp only [lay, Act.put, List.getElem?_toArray, List.getElem?_cons_succ, List.getElem?_cons_zero, Option.bind_some, List.setIfInBounds_toArray, List.set_cons_succ, List.set_cons_zero]
  generalize vs 0 = v0, vs 1 = v1, vs 2 = v2, vs 3 = v3, vs 4 = v4, vs 5 = v5
  generalize vs 6 = v6 at *
  subst e6
  obtain ⟨hc, hf, hz⟩ := bcell hG
  go_wp2
  exact bodyPost_ret (v := .agg #[.int .i64 ((ovl (lo, hi) (0, 2000)).1 * m), .int .i64 (((ovl (lo, hi) (0, 2000)).2 + 1) * m - 1)]) (by simp [results, Tryz.results141, go_sem, hc]) rfl ⟨rfl, (((bgr (((Below.refl _ _).alloc (by first | (simp <;> omega) | omega) _).alloc (by first | (simp <;> omega) | omega) _) (by first | (simp <;> omega) | omega) hG).setCell (by first | (simp <;> omega) | omega) _).setCell (by first | (simp <;> omega) | omega) _)⟩
theorem steadyPower_far (n f : Int) (lo hi : Int) (w : World) (b : -10000 ≤ (ovl (lo, hi) (0, 2000)).1 ∧ (ovl (lo, hi) (0, 2000)).1 ≤ 10000 ∧ -10000 ≤ (ovl (lo, hi) (0, 2000)).2 ∧ (ovl (lo, hi) (0, 2000)).2 ≤ 10000) (h4 : 0 ≤ n) (h5 : n ≤ 1073741824) (h6 : 0 ≤ f) (h7 : f ≤ 1073741824) :
    Calls Tryz.prog 141 #[.agg #[.iface 196 (.agg #[.int .i64 n, .int .i64 f]), .int .i64 lo, .int .i64 hi, .bool false]] w fun e w' => e = .returned (.agg #[.int .i64 ((ovl (lo, hi) (0, 2000)).1 * n), .int .i64 (((ovl (lo, hi) (0, 2000)).2 + 1) * f - 1)]) ∧ Below w.heap.size w w' := by
  obtain ⟨b0, b1, b2, b3⟩ := b
  have hme := fun w => me_far_powers n f w
  go_enter Tryz.func141, Tryz.ntmps141
  go_wp2
  refine region2 7 ?_ ?_ ?_
  · kernel_rfl
  · kernel_rfl
  simp only [List.take_succ_cons, List.take_zero, List.drop_succ_cons, List.drop_zero]
  apply ceq (D := [(1, none)]) rfl (by kernel_rfl)
  · intro ρ W ⟨p1,p2,p3⟩ hG hF K hK; (try simp [FD] at hF); have ⟨hc, hf, hz⟩ := bcell hG; go_simp; exact hK _ gv
  apply ceq (D := [(6, some 0)]) rfl (by kernel_rfl)
  · intro ρ W ⟨p1,p2,p3⟩ hG hF K hK; (try simp [FD] at hF); have ⟨hc, hf, hz⟩ := bcell hG; go_simp; exact hK _ gv
  apply ceq (D := [(1, none)]) rfl (by kernel_rfl)
  · intro ρ W ⟨p1,p2,p3⟩ hG hF K hK; (try simp [FD] at hF); have ⟨hc, hf, hz⟩ := bcell hG; go_simp; exact hK _ gv
  apply ceq (D := [(8, some 0)]) rfl (by kernel_rfl)
  · intro ρ W ⟨p1,p2,p3⟩ hG hF K hK; (try simp [FD] at hF); have ⟨hc, hf, hz⟩ := bcell hG; go_simp; exact hK _ (gc (steady_any _ _ _ _ _))
  apply ceq (D := [(7, some 2)]) rfl (by kernel_rfl)
  · intro ρ W ⟨p1,p2,p3⟩ hG hF K hK; (try simp [FD] at hF); have ⟨hc, hf, hz⟩ := bcell hG; go_simp; exact hK _ gv
  apply ceq (D := [(7, some 3)]) rfl (by kernel_rfl)
  · intro ρ W ⟨p1,p2,p3⟩ hG hF K hK; (try simp [FD] at hF); have ⟨hc, hf, hz⟩ := bcell hG; go_simp; exact hK _ gv
  apply ceq (D := [(11, some 0), (9, some 2)]) rfl (by kernel_rfl)
  · intro ρ W ⟨p1,p2,p3⟩ hG hF K hK; (try simp [FD] at hF); have ⟨hc, hf, hz⟩ := bcell hG; go_simp; exact hK _ (gc (farPowers_any _ _ _ _ _ b0 b1 b2 b3 h4 h5 h6 h7))
  refine cdn ?_
  intro vs W hG hV
  obtain ⟨e6, -⟩ := hV
  simp only [Nat.reduceSub] at e6
  simp only [lay, Act.put, List.getElem?_toArray, List.getElem?_cons_succ, List.getElem?_cons_zero, Option.bind_some, List.setIfInBounds_toArray, List.set_cons_succ, List.set_cons_zero]
  generalize vs 0 = v0, vs 1 = v1, vs 2 = v2, vs 3 = v3, vs 4 = v4, vs 5 = v5
  generalize vs 6 = v6 at *
  subst e6
  obtain ⟨hc, hf, hz⟩ := bcell hG
  go_wp2
  exact bodyPost_ret (v := .agg #[.int .i64 ((ovl (lo, hi) (0, 2000)).1 * n), .int .i64 (((ovl (lo, hi) (0, 2000)).2 + 1) * f - 1)]) (by simp [results, Tryz.results141, go_sem, hc]) rfl ⟨rfl, (((bgr (((Below.refl _ _).alloc (by first | (simp <;> omega) | omega) _).alloc (by first | (simp <;> omega) | omega) _) (by first | (simp <;> omega) | omega) hG).setCell (by first | (simp <;> omega) | omega) _).setCell (by first | (simp <;> omega) | omega) _)⟩
theorem steadyPower_no (wit : Value) (lo hi : Int) (w : World) :
    Calls Tryz.prog 141 #[.agg #[wit, .int .i64 lo, .int .i64 hi, .bool true]] w fun e w' => e = .returned (.agg #[.int .i64 1, .int .i64 0]) ∧ Below w.heap.size w w' := by
  go_enter Tryz.func141, Tryz.ntmps141
  go_wp2_with (go_at_call 151; refine (nothing_any _).mono ?_; rintro e w1 ⟨rfl, hb1⟩; obtain ⟨hc1, hf1, hz1⟩ := bcell hb1)
  exact bodyPost_ret (v := .agg #[.int .i64 1, .int .i64 0]) (by simp [results, Tryz.results141, go_sem, hc1]) rfl ⟨rfl, (((bgr (((Below.refl _ _).alloc (by first | (simp <;> omega) | omega) _).alloc (by first | (simp <;> omega) | omega) _) (by first | (simp <;> omega) | omega) hb1).setCell (by first | (simp <;> omega) | omega) _).setCell (by first | (simp <;> omega) | omega) _)⟩
theorem steadyPower_any (s : Sg) (h : s.ok) (w : World) : Calls Tryz.prog 141 #[s.val] w fun e w' => e = .returned (.agg #[.int .i64 s.spw.1, .int .i64 s.spw.2]) ∧ Below w.heap.size w w' := by
  have hst := Sg.st_in h
  obtain ⟨wit, lo, hi, sl⟩ := s
  obtain ⟨hw, -⟩ := h
  cases sl with
  | true => exact steadyPower_no _ _ _ _
  | false =>
    cases wit with
    | mark m => exact steadyPower_mark m lo hi _ hst hw.1 hw.2
    | far n f => exact steadyPower_far n f lo hi _ hst hw.1 hw.2.1 hw.2.2.1 hw.2.2.2
end Go.Proofs.YtcngaohfemdfjaaGreat
