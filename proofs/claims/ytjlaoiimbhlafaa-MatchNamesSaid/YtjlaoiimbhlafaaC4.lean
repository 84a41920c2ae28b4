import Derived.Test.YtjlaoiimbhlafaaC3
import Derived.Test.YtjlaoiimbhlafaaD1
import Derived.DeepKeys3
import Derived.WideKeyRuns
set_option linter.unusedVariables false
set_option linter.unusedSimpArgs false
namespace Go.Proofs.Ytjlaoiimbhlafaa
open Go.RowKit Go.Shelf

open MW
/-! The map of what is known: by rests. -/
theorem kt148 : Try.prog.keyTypeAt 3 148 = true := by kernel_rfl
theorem wide148 : (match Try.prog.underlying 148 with | some (.array _ _) | some (.struct _) => true | _ => false) = true := by kernel_rfl
theorem tiled148 : Try.prog.tiled 3 148 = true := by kernel_rfl
def lit1 (x : Int) : Option (List Lit) := if IntKind.i64 = IntKind.i64 ∧ (Lit.int .i64 x).wf = true then some [Lit.int .i64 x] else none
theorem lits148 (n : Nat) (x y z : Int) : Try.prog.keyLits (n + 2) 148 [.int .i64 x, .int .i64 y, .int .i64 z] = (List.mapM lit1 [x, y, z]).map List.flatten := by kernel_rfl
theorem lit1_in {x : Int} (h : -9223372036854775808 ≤ x ∧ x ≤ 9223372036854775807) : lit1 x = some [Lit.int .i64 x] := by
  have e1 : IntKind.i64.min = -9223372036854775808 := by decide
  have e2 : IntKind.i64.max = 9223372036854775807 := by decide
  have : (Lit.int .i64 x).wf = true := by
    simp only [Lit.wf, e1, e2, Bool.and_eq_true, decide_eq_true_eq]
    exact h
  unfold lit1
  rw [if_pos ⟨rfl, this⟩]
/-- The rests that there are. -/
def Rst (a b : Nat) (h : Int) : Prop := a ≤ 100 ∧ b ≤ 100 ∧ -1000 ≤ h ∧ h ≤ 1000
theorem litsOk {a b : Nat} {h : Int} (hr : Rst a b h) (n : Nat) : Try.prog.keyLits (n + 2) 148 (restV a b h).cells.toList = some [Lit.int .i64 a, Lit.int .i64 b, Lit.int .i64 h] := by
  obtain ⟨h1, h2, h3, h4⟩ := hr
  have := lits148 n a b h
  rw [List.mapM_cons, List.mapM_cons, List.mapM_cons, List.mapM_nil, lit1_in (by omega), lit1_in (by omega), lit1_in (by omega)] at this
  exact this
theorem formed148 (a b : Nat) (h : Int) : (Try.prog.keyType 148 && (restV a b h).formed Try.prog 148) = true := by kernel_rfl
theorem key148 {a b : Nat} {h : Int} (hr : Rst a b h) : ∃ l, keyOf Try.prog 148 (restV a b h) = some l := by
  have e : keyOf Try.prog 148 (restV a b h) = if Try.prog.keyType 148 && (restV a b h).formed Try.prog 148 then (Try.prog.keyLits (Try.prog.types.size + 1) 148 (restV a b h).cells.toList).map fun ls => .string (keyBytes ls) else none := by kernel_rfl
  have hs : Try.prog.types.size + 1 = 206 + 2 := by kernel_rfl
  rw [e, if_pos (formed148 a b h), hs, litsOk hr 206]
  exact ⟨_, rfl⟩
theorem restV_inj {a b a' b' : Nat} {h h' : Int} (e : restV a b h = restV a' b' h') : a = a' ∧ b = b' ∧ h = h' := by
  unfold restV at e
  simp only [Value.agg.injEq, Array.mk.injEq, List.cons.injEq, Value.int.injEq, true_and, and_true] at e
  obtain ⟨e1, e2, e3⟩ := e
  exact ⟨by omega, by omega, e3⟩
theorem run_eq148 {a b a' b' : Nat} {h h' : Int} (hr : Rst a b h) (hr' : Rst a' b' h') (w : World) : ∃ r : Bool, (Op.equal 148 (restV a b h) (restV a' b' h')).run Try.prog w = .ok r w ∧ (r = true ↔ restV a b h = restV a' b' h') := by
  obtain ⟨l, hl⟩ := key148 hr
  obtain ⟨l', hl'⟩ := key148 hr'
  obtain ⟨r, hq, hi⟩ := run_equal_deep (P := Try.prog) (m := 3) (k := 148) w (by decide) kt148 (by kernel_rfl) hl hl'
  refine ⟨r, hq, hi.trans ⟨fun e => ?_, fun e => ?_⟩⟩
  · subst e
    exact keyOf_inj_deep (P := Try.prog) (m := 3) (k := 148) tiled148 (by kernel_rfl) hl hl'
  · rw [e] at hl
    rw [hl] at hl'
    exact Option.some.inj hl'
theorem find148 (x : Value) (es : List MapEntry) (w : World) : (Instr.findKey 148 x es).run Try.prog w = (Instr.findAsking 148 x es).run Try.prog w := run_findKey_eq (P := Try.prog) (k := 148) w (by kernel_rfl) x es
theorem run_ask148 {a b : Nat} {h : Int} (hr : Rst a b h) (w : World) : ∀ (es : List MapEntry) (i : Nat), (∀ e ∈ es, ∃ a b h, Rst a b h ∧ e.key = restV a b h) →
    (Instr.findAsking 148 (restV a b h) es i).run Try.prog w = .ok none w ∨
      ∃ j e, (Instr.findAsking 148 (restV a b h) es i).run Try.prog w = .ok (some (i + j, e.val)) w ∧ es[j]? = some e ∧ e.key = restV a b h
  | [], i, _ => .inl (by simp [Instr.findAsking])
  | e :: es, i, hk => by
    obtain ⟨a', b', h', hr', hk'⟩ := hk e (by simp)
    obtain ⟨r, hq, hi⟩ := run_eq148 hr hr' w
    cases r with
    | true =>
      right
      exact ⟨0, e, by simp [Instr.findAsking, hk', hq], rfl, by rw [hk', hi.1 rfl]⟩
    | false =>
      rcases run_ask148 hr w es (i + 1) (fun x hx => hk x (by simp [hx])) with h1 | ⟨j, e', h1, h2, h3⟩
      · left
        simp [Instr.findAsking, hk', hq, h1]
      · right
        exact ⟨j + 1, e', by simp [Instr.findAsking, hk', hq, h1]; omega, by simpa using h2, h3⟩
theorem run_check148 {a b : Nat} {h : Int} (hr : Rst a b h) (em : Bool) (w : World) : (Instr.checkKey em 10000 148 (restV a b h)).run Try.prog w = .ok () w :=
  run_checkKey_deep em 9997 3 148 kt148 w 5 _ _ (by kernel_rfl) (litsOk hr 3)
/-- What is kept of the map: of each rest that it knows, the number of its ways. -/
def Gd (f : Nat → Nat → Int → Nat) (o : Obj) : Prop := ∃ (l : Array MapEntry) (c : Nat), o = .map l c ∧ ∀ e ∈ l.toList, ∃ a b h, Rst a b h ∧ e.key = restV a b h ∧ e.val = .int .i64 (f a b h)
theorem Gd.new (f : Nat → Nat → Int → Nat) : Gd f (.map #[] 0) := ⟨#[], 0, rfl, fun e he => by simp at he⟩
theorem under145 : Try.prog.underlying 145 = some (.map 148 3) := by kernel_rfl
theorem zero3 (w : World) : (zeroValue 3).run Try.prog w = .ok (.int .i64 0) w := by kernel_rfl
theorem run_known {f : Nat → Nat → Int → Nat} {mb : Nat} {w : World} {o : Obj} (hb : w.heap[mb]? = some o) (hG : Gd f o) {a b : Nat} {h : Int} (hr : Rst a b h) :
    (Instr.lookup 145 (.map (some mb)) (restV a b h) true).run Try.prog w = .ok (.tuple #[.int .i64 0, .bool false]) w ∨
    (Instr.lookup 145 (.map (some mb)) (restV a b h) true).run Try.prog w = .ok (.tuple #[.int .i64 (f a b h), .bool true]) w := by
  obtain ⟨l, c, rfl, hl⟩ := hG
  rcases run_ask148 hr w l.toList 0 (fun e he => by obtain ⟨x, y, z, hq, hk, -⟩ := hl e he; exact ⟨x, y, z, hq, hk⟩) with h1 | ⟨j, e, h1, h2, h3⟩
  · left
    simp [Instr.lookup, run_underlying under145, Go.MapKept.run_getObj_map hb, run_check148 hr, find148, h1, zero3, Result.andThen]
  · right
    obtain ⟨x, y, z, hq, hk, hv⟩ := hl e (List.mem_of_getElem? h2)
    rw [hk] at h3
    obtain ⟨rfl, rfl, rfl⟩ := restV_inj h3
    simp [Instr.lookup, run_underlying under145, Go.MapKept.run_getObj_map hb, run_check148 hr, find148, h1, hv, Result.andThen]
theorem same_int (n : Nat) (x : Int) : Instr.sameBits (n + 1) (.int .i64 x) (.int .i64 x) = true := by simp [Instr.sameBits]
theorem keepKey (a b : Nat) (h : Int) (w : World) : (Instr.keyThatStays (restV a b h) (restV a b h)).run Try.prog w = .ok (restV a b h) w := by
  have : Instr.sameBits 10000 (restV a b h) (restV a b h) = true := by simp [restV, Instr.sameBits]
  unfold Instr.keyThatStays
  rw [if_pos this]
  rfl
theorem run_learn {f : Nat → Nat → Int → Nat} {mb : Nat} {w : World} {o : Obj} (hb : w.heap[mb]? = some o) (hG : Gd f o) {a b : Nat} {h : Int} (hr : Rst a b h) :
    ∃ w', (Instr.mapUpdate 145 (.map (some mb)) (restV a b h) (.int .i64 (f a b h))).run Try.prog w = .ok () w' ∧ Dr ⟨mb, Gd f⟩ 0 w w' := by
  obtain ⟨l, c, rfl, hl⟩ := hG
  have hm : mb < w.heap.size := (Array.getElem?_eq_some_iff.1 hb).1
  have key : ∀ (l' : Array MapEntry) (c' : Nat), (∀ e ∈ l'.toList, ∃ a b h, Rst a b h ∧ e.key = restV a b h ∧ e.val = .int .i64 (f a b h)) → Dr ⟨mb, Gd f⟩ 0 w { w with heap := w.heap.setIfInBounds mb (.map l' c') } := fun l' c' h' =>
    ⟨rfl, rfl, rfl, by simp, fun k hk hne => by simp [Array.getElem?_setIfInBounds_ne (Ne.symm hne)], fun o ho hg => ⟨.map l' c', by simp [hm], l', c', rfl, h'⟩⟩
  rcases run_ask148 hr w l.toList 0 (fun e he => by obtain ⟨x, y, z, hq, hk, -⟩ := hl e he; exact ⟨x, y, z, hq, hk⟩) with h1 | ⟨j, e, h1, h2, h3⟩
  · refine ⟨_, ?_, key (l.push { key := restV a b h, val := .int .i64 (f a b h), born := c }) (c + 1) ?_⟩
    · simp [Instr.mapUpdate, run_underlying under145, Go.MapKept.run_getObj_map hb, run_check148 hr, find148, h1, Result.andThen, Go.MapKept.run_setObj_map _ hb]
    · intro e he
      rw [Array.toList_push, List.mem_append] at he
      rcases he with he | he
      · exact hl e he
      · rw [List.mem_singleton.1 he]
        exact ⟨a, b, h, hr, rfl, rfl⟩
  · have hj : l[j]? = some e := by simpa using h2
    refine ⟨_, ?_, key (l.modify j fun e => { e with key := restV a b h, val := .int .i64 (f a b h) }) c ?_⟩
    · simp [Instr.mapUpdate, run_underlying under145, Go.MapKept.run_getObj_map hb, run_check148 hr, find148, h1, hj, h3, keepKey, Result.andThen, Go.MapKept.run_setObj_map _ hb]
    · intro e' he
      obtain ⟨i, hi⟩ := List.mem_iff_getElem?.1 he
      rw [Array.getElem?_toList, Array.getElem?_modify] at hi
      split at hi
      · obtain ⟨e0, h4, h5⟩ := Option.map_eq_some_iff.1 hi
        rw [← h5]
        exact ⟨a, b, h, hr, rfl, rfl⟩
      · exact hl e' (List.mem_of_getElem? (by simpa using hi))
section
variable {ops : Array Oper} {rest : List Oper} {op : Oper} {act : Act} {w : World} {Q : Exit → Act → World → Prop}
theorem wpList_stopUpd {P : Program} {ty : TypeId} {x y z : Operand} (_ : op.op = .mapUpdate ty x y z) (h : Stop (wpList P ops Q (op :: rest) act w)) : wpList P ops Q (op :: rest) act w := h
theorem wpList_learn {m k v : Operand} {f : Nat → Nat → Int → Nat} {mb a b : Nat} {h : Int} {o : Obj} (hb : w.heap[mb]? = some o) (hG : Gd f o) (hr : Rst a b h)
    (ho : op.op = .mapUpdate 145 m k v) (hgd : op.guard = none) (hm : act.eval m = .map (some mb)) (hk : act.eval k = restV a b h) (hv : act.eval v = .int .i64 (f a b h))
    (hK : ∀ w', Dr ⟨mb, Gd f⟩ 0 w w' → wpList Try.prog ops Q rest (act.put op.dst undef) w') : wpList Try.prog ops Q (op :: rest) act w := by
  refine wpList_plain hgd fun K hQ => ?_
  obtain ⟨w', h1, h2⟩ := run_learn hb hG hr
  unfold Oper.wp execOp
  simp only [ho, hm, hk, hv, Sem.run_bind, h1, Result.andThen_ok, Sem.run_pure]
  exact hQ _ _ (hK w' h2)
end

end Go.Proofs.Ytjlaoiimbhlafaa
