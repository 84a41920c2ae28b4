import Derived.Test.YtcngaohfemdfjaaGreatE17
import Derived.Test.YtcngaohfemdfjaaGreatE18
set_option linter.unusedVariables false
set_option linter.unusedSimpArgs false
set_option maxRecDepth 100000
set_option maxHeartbeats 60000000
namespace Go.Proofs.YtcngaohfemdfjaaGreat
open Go.RowKit Go.Shelf
attribute [local go_sem] Oper.semAt_some
theorem splits_stops (k : Cd) (mb bs bl n : Nat) (s : Int) (w : World) (hm : 0 ≤ k.cuts ∧ k.cuts ≤ 40) (hs : 0 ≤ s ∧ s ≤ 2 * k.cuts) (hbs : Box w bs [.int .i64 s] 3) (hbl : Box w bl (k.lk mb) 71) :
    SeqStopsK Fence.wide n Tryz.prog 148 #[.pointer (some ⟨bs, 0, none⟩), .pointer (some ⟨bl, 0, none⟩)] (encL (m := k.cuts) (s := s)) (KeepAt [bs, bl]) (fun ys => ys.map Lf.v = lefts k.cuts s) (fun pre => ∃ rest, lefts k.cuts s = pre.map Lf.v ++ rest) 1000 w :=
  SeqStopsK.depth (n := 8) rfl fun y J Jx W hW hAJ _hAX hY h0 =>
    splits1_any k mb bs bl y s J Jx W hm hs (fun s A B h hg => hAJ s A B none h (Gr.grown hg) (fun r e => by cases e)) hY (hbs.grow hW) (hbl.grow hW) h0
def KeepX (S : List Nat) (A B : World) : Prop := A.heap.size ≤ B.heap.size ∧ ∀ k, k ∉ S → k < A.heap.size → B.heap[k]? = A.heap[k]?
theorem KeepX.trans {S : List Nat} {A B C : World} (h : KeepX S A B) (k : KeepX S B C) : KeepX S A C := ⟨Nat.le_trans h.1 k.1, fun i hi hl => (k.2 i hi (Nat.lt_of_lt_of_le hl h.1)).trans (h.2 i hi hl)⟩
theorem KeepX.of {S : List Nat} {A B : World} (h : Gr A B) : KeepX S A B := ⟨h.size, fun _ _ hl => h.block _ hl⟩
theorem KeepX.set {S : List Nat} (W : World) (b i : Nat) (v : Value) (h : b ∈ S) : KeepX S W (W.setCell ⟨b, i, none⟩ v) := ⟨by simp, fun k hk _ => Below.heap_setCell _ _ _ _ (fun (e : k = b) => hk (e ▸ h))⟩
theorem KeepX.putObj {S : List Nat} (W : World) (l : Nat) (o' : Obj) (h : l ∈ S) : KeepX S W (W.putObj l o') := ⟨(grownBy_putObj' W l o').size, fun k hk hl => (grownBy_putObj' W l o').block k hl fun e => hk ((Option.some.inj e) ▸ h)⟩
theorem KeepX.box {S : List Nat} {A B : World} (h : KeepX S A B) {b : Nat} {vs : List Value} {T : TypeId} (hb : Box A b vs T) (hq : b ∉ S) : Box B b vs T := (h.2 b hq hb.lt).trans hb
theorem KeepX.from {S : List Nat} {A B : World} (h : KeepX S A B) {N : Nat} (hS : ∀ k ∈ S, k < N) : KeepsFrom N A B := ⟨h.1, fun k o hk ho _ => (h.2 k (fun hm => by have := hS k hm; omega) (Array.getElem?_eq_some_iff.1 ho).1).trans ho⟩
theorem KeepX.at {S S' : List Nat} {A B : World} (h : KeepX S A B) (hS : ∀ k ∈ S', k ∉ S) : KeepAt S' A B := ⟨h.1, fun k hk hl => h.2 k (hS k hk) hl⟩
def Marks (B : Nat) (ds : List Nat) (W : World) : Prop := ds.Nodup ∧ ∀ D ∈ ds, B ≤ D ∧ D < W.heap.size ∧ W.heap[D]? = some (.deferred (some []))
def markOf (D : Nat) : Deferred := { target := .collected D, args := #[] }
theorem Marks.own {B B' : Nat} {ds : List Nat} {w : World} (h : Marks B ds w) {A A' : World} {row : Option Nat} (hA : Marks B ds A) (hB : w.heap.size ≤ B') (hg : A.grownBy A' row) (hr : ∀ r, row = some r → B' ≤ r) : Marks B ds A' :=
  ⟨hA.1, fun D hD => ⟨(hA.2 D hD).1, Nat.lt_of_lt_of_le (hA.2 D hD).2.1 hg.size, (hg.block D (hA.2 D hD).2.1 fun e => by have := hr D e.symm; have := (h.2 D hD).2.1; omega).trans (hA.2 D hD).2.2⟩⟩
theorem Marks.keep {B : Nat} {ds : List Nat} {S : List Nat} {A A' : World} (h : Marks B ds A) (hk : KeepX S A A') (hS : ∀ k ∈ S, k < B) : Marks B ds A' :=
  ⟨h.1, fun D hD => ⟨(h.2 D hD).1, Nat.lt_of_lt_of_le (h.2 D hD).2.1 hk.1, (hk.2 D (fun hm => by have := hS D hm; have := (h.2 D hD).1; omega) (h.2 D hD).2.1).trans (h.2 D hD).2.2⟩⟩
theorem Marks.cons {B : Nat} {ds : List Nat} {w W : World} {D : Nat} (h : Marks B ds W) (h0 : Marks B ds w) (hD : w.heap.size ≤ D) (hB : B ≤ D) (hd : W.heap[D]? = some (.deferred (some []))) : Marks B (D :: ds) W :=
  ⟨List.nodup_cons.2 ⟨fun hm => by have := (h0.2 D hm).2.1; omega, h.1⟩, fun E hE => by
    rcases List.mem_cons.1 hE with e | hE
    · subst e; exact ⟨hB, (Array.getElem?_eq_some_iff.1 hd).1, hd⟩
    · exact h.2 E hE⟩
theorem leaves_marks {n : Nat} {fn : Func} {tmps : Array Value} {B : Nat} {J : World → Prop} (hJ : OwnFrom B (fun (_ : Unit) W => J W)) (hr : fn.results = #[]) : ∀ (ds : List Nat) (W : World), Marks B ds W → J W →
    LeavesInM Fence.wide n Tryz.prog fn tmps (fun e W => (∃ v, e = .returned v) ∧ J W) (ds.map markOf) .returning W
  | [], W, _, hj => ⟨.tuple #[], by simp [results, hr, go_sem], ⟨_, rfl⟩, hj⟩
  | D :: ds, W, hm, hj => by
    have hd := (hm.2 D (by simp))
    have hnd := List.nodup_cons.1 hm.1
    refine ⟨by simp, .inl ⟨D, _, rfl, run_takeDeferred hd.2.2, ?_⟩⟩
    refine leaves_marks hJ hr ds _ ⟨hnd.2, fun E hE => ?_⟩ (hJ () W _ (some D) hj (grownBy_putObj' W D _) (fun r e => by cases e; exact ⟨hd.1, _, hd.2.2, rfl⟩))
    have hE' := hm.2 E (List.mem_cons_of_mem _ hE)
    refine ⟨hE'.1, by simpa using hE'.2.1, ?_⟩
    rw [World.putObj_heap_other (fun (e : E = D) => hnd.1 (by rw [← e]; exact hE))]
    exact hE'.2.2
theorem RoundIn.deep {y1 y2 n m : Nat} {P : Program} {l : Nat} {f : FuncId} {tmps : Array Value} {assign body : Code} {w : World} {R : Ending → World → Prop} (h : RoundIn Fence.wide n P l f tmps assign body w R) : RoundIn ((Fence.wide.inRound y1).inRound y2) m P l f tmps assign body w R :=
  ⟨trivial, fun c cs _ => h.2 c cs (room_wide _)⟩
structure Tc (m : Int) where
  u : Cu
  mem : u ∈ trims m
def encT {m : Int} (x : Tc m) : Array Value := #[.agg #[.int .i64 x.u.a, .int .i64 x.u.b, .int .i64 x.u.c, .int .i64 x.u.d]]
def usOf {m : Int} (l : List (Tc m)) : List Cu := l.map Tc.u
def trimsTo (m : Int) (s : Nat) : List Cu := (List.range s).flatMap fun (i : Nat) => trimsAt m i
theorem trimsTo_succ (m : Int) (s : Nat) : trimsTo m (s + 1) = trimsTo m s ++ trimsAt m s := by
  unfold trimsTo; rw [List.range_succ, List.flatMap_append]; simp
def tRow (m s l : Int) : List Cu := (lefts m s).map fun r => ⟨l, s - l, r, s - r⟩
theorem trimsAt_row (m s : Int) : trimsAt m s = (lefts m s).flatMap (tRow m s) := rfl
theorem lefts_short {m s : Int} (hm : 0 ≤ m ∧ m ≤ 40) : (lefts m s).length ≤ 41 := by
  rw [lefts_len]
  unfold imin imax
  split <;> split <;> omega
theorem flat_short {α β : Type} (f : α → List β) (c : Nat) (hf : ∀ a, (f a).length ≤ c) : ∀ l : List α, (l.flatMap f).length ≤ l.length * c
  | [] => by simp
  | a :: l => by
    rw [List.flatMap_cons, List.length_append, List.length_cons, Nat.add_mul]
    have := flat_short f c hf l
    have := hf a
    omega
theorem tRow_short {m s l : Int} (hm : 0 ≤ m ∧ m ≤ 40) : (tRow m s l).length ≤ 41 := by unfold tRow; rw [List.length_map]; exact lefts_short hm
theorem trimsAt_short {m s : Int} (hm : 0 ≤ m ∧ m ≤ 40) : (trimsAt m s).length ≤ 1681 := by
  rw [trimsAt_row]
  have h1 := flat_short (tRow m s) 41 (fun l => tRow_short hm) (lefts m s)
  have h2 := lefts_short (s := s) hm
  omega
theorem trimsTo_short {m : Int} {s : Nat} (hm : 0 ≤ m ∧ m ≤ 40) (hs : s ≤ 81) : (trimsTo m s).length ≤ 136161 := by
  unfold trimsTo
  have h1 := flat_short (fun (i : Nat) => trimsAt m i) 1681 (fun i => trimsAt_short hm) (List.range s)
  simp only [List.length_range] at h1
  omega
theorem trims_to (m : Int) : trims m = trimsTo m (2 * m + 1).toNat := rfl
theorem mem_row {m s l r : Int} (hl : l ∈ lefts m s) (hr : r ∈ lefts m s) : (⟨l, s - l, r, s - r⟩ : Cu) ∈ trimsAt m s := by
  rw [trimsAt_row]
  exact List.mem_flatMap.2 ⟨l, hl, List.mem_map.2 ⟨r, hr, rfl⟩⟩
theorem mem_at {m : Int} {s : Nat} {u : Cu} (h : u ∈ trimsAt m s) : u ∈ trims m := mem_trims.2 (mem_trimsAt.1 h).1
theorem trimsTo_pre {m : Int} {s : Nat} (hs : (s : Int) < 2 * m + 1) : ∃ rest, trims m = trimsTo m s ++ trimsAt m s ++ rest := by
  rw [trims_to]
  obtain ⟨d, hd⟩ : ∃ d, (2 * m + 1).toNat = s + 1 + d := ⟨(2 * m + 1).toNat - (s + 1), by omega⟩
  rw [hd, ← trimsTo_succ]
  unfold trimsTo
  rw [List.range_add, List.flatMap_append]
  exact ⟨_, rfl⟩
def TrI (k : Cd) (mb bl y N : Nat) (J : List (Tc k.cuts) → World → Prop) (a' : Act) (w' : World) : Prop :=
  ∃ (s : Nat) (ds : List Nat) (u3 u14 u15 u16 u17 u18 u34 : Value), a' = { tmps := #[.func (.yield y) #[] #[], .pointer (some ⟨bl, 0, none⟩), .pointer (some ⟨N, 0, none⟩), u3, undef, undef, undef, undef, .pointer (some ⟨bl, 0, none⟩), .pointer (some ⟨bl, 10, none⟩), .int .i64 k.cuts, .int .i64 (2 * k.cuts), .int .i64 (2 * k.cuts + 1), .int .i64 (s : Nat), u14, u15, u16, u17, u18, undef, undef, undef, undef, undef, undef, undef, undef, undef, undef, undef, undef, undef, undef, undef, u34], defers := ds.map markOf } ∧ (s : Int) ≤ 2 * k.cuts + 1 ∧ Marks N ds w' ∧ Box w' bl (k.lk mb) 71 ∧ Box w' N [.func (.yield y) #[] #[]] 177 ∧ ∃ ys, usOf ys = trimsTo k.cuts s ∧ J ys w'
def S1 (k : Cd) (mb bl N b3 y : Nat) (ds : List Nat) (s : Nat) (W' : World) : Prop := Marks N ds W' ∧ Box W' bl (k.lk mb) 71 ∧ Box W' N [.func (.yield y) #[] #[]] 177 ∧ Box W' b3 [.int .i64 (s : Nat)] 3
def I1 (k : Cd) (mb bl N b3 y : Nat) (J : List (Tc k.cuts) → World → Prop) (ds : List Nat) (s : Nat) (pre : List (Lf k.cuts s)) (W' : World) : Prop :=
  (∃ ys, usOf ys = trimsTo k.cuts s ++ (pre.map Lf.v).flatMap (tRow k.cuts s) ∧ J ys W') ∧ S1 k mb bl N b3 y ds s W'
def X1 (k : Cd) (N : Nat) (Jx : List (Tc k.cuts) → World → Prop) (ds : List Nat) (s : Nat) (c : Code) (pre : List (Lf k.cuts s)) (W' : World) : Prop :=
  c = .ret ∧ (∃ ys rest, usOf ys ++ rest = trimsTo k.cuts s ++ (pre.map Lf.v).flatMap (tRow k.cuts s) ∧ Jx ys W') ∧ Marks N ds W'
def A1 (k : Cd) (mb bl y N b3 bs1 bl1 : Nat) (u34 : Value) (s : Nat) (x : Lf k.cuts s) (a' : Act) (W' : World) : Prop := ∃ b4 b5 l, l = x.v ∧ N ≤ b4 ∧ N ≤ b5 ∧ Box W' b4 [.int .i64 l] 3 ∧ Box W' b5 [.int .i64 ((s : Nat) - l)] 3 ∧ a' = { tmps := #[.func (.yield y) #[] #[], .pointer (some ⟨bl, 0, none⟩), .pointer (some ⟨N, 0, none⟩), .pointer (some ⟨b3, 0, none⟩), .pointer (some ⟨b4, 0, none⟩), .pointer (some ⟨b5, 0, none⟩), undef, undef, .pointer (some ⟨bl, 0, none⟩), .pointer (some ⟨bl, 10, none⟩), .int .i64 k.cuts, .int .i64 (2 * k.cuts), .int .i64 (2 * k.cuts + 1), .int .i64 (s : Nat), .bool true, .int .i64 (s : Nat), .agg (k.lk mb).toArray, .int .i64 (s : Nat), .func (.func 148) #[] #[.pointer (some ⟨bs1, 0, none⟩), .pointer (some ⟨bl1, 0, none⟩)], .int .i64 l, .int .i64 ((s : Nat) - l), undef, undef, undef, undef, undef, undef, undef, undef, undef, undef, undef, undef, undef, u34], defers := [] }
def I2 (k : Cd) (mb bl N b3 b4 b5 y bs1 bl1 B1 : Nat) (J : List (Tc k.cuts) → World → Prop) (ds : List Nat) (s : Nat) (l : Int) (us : List Cu) (Wb : World) (pre : List (Lf k.cuts s)) (W' : World) : Prop :=
  (∃ ys, usOf ys = us ++ (pre.map Lf.v).map (fun r => ⟨l, s - l, r, s - r⟩) ∧ J ys W') ∧ S1 k mb bl N b3 y ds s W' ∧ Box W' b4 [.int .i64 l] 3 ∧ Box W' b5 [.int .i64 ((s : Nat) - l)] 3 ∧ KeepsFrom B1 Wb W' ∧ KeepAt [bs1, bl1] Wb W'
def X2 (k : Cd) (N B1 : Nat) (Jx : List (Tc k.cuts) → World → Prop) (ds : List Nat) (s : Nat) (l : Int) (us : List Cu) (Wb : World) (c : Code) (pre : List (Lf k.cuts s)) (W' : World) : Prop :=
  c = .ret ∧ (∃ ys, usOf ys = us ++ (pre.map Lf.v).map (fun r => ⟨l, s - l, r, s - r⟩) ∧ Jx ys W') ∧ Marks N ds W' ∧ KeepsFrom B1 Wb W'
def A2 (k : Cd) (mb bl y N b3 b4 b5 bs1 bl1 : Nat) (g u34 : Value) (l : Int) (s : Nat) (x : Lf k.cuts s) (a' : Act) (_ : World) : Prop := ∃ r, r = x.v ∧ a' = { tmps := #[.func (.yield y) #[] #[], .pointer (some ⟨bl, 0, none⟩), .pointer (some ⟨N, 0, none⟩), .pointer (some ⟨b3, 0, none⟩), .pointer (some ⟨b4, 0, none⟩), .pointer (some ⟨b5, 0, none⟩), .int .i64 r, .int .i64 ((s : Nat) - r), .pointer (some ⟨bl, 0, none⟩), .pointer (some ⟨bl, 10, none⟩), .int .i64 k.cuts, .int .i64 (2 * k.cuts), .int .i64 (2 * k.cuts + 1), .int .i64 (s : Nat), .bool true, .int .i64 (s : Nat), .agg (k.lk mb).toArray, .int .i64 (s : Nat), .func (.func 148) #[] #[.pointer (some ⟨bs1, 0, none⟩), .pointer (some ⟨bl1, 0, none⟩)], .int .i64 l, .int .i64 ((s : Nat) - l), .agg (k.lk mb).toArray, .int .i64 (s : Nat), g, .int .i64 r, .int .i64 ((s : Nat) - r), undef, undef, undef, undef, undef, undef, undef, undef, u34], defers := [] }
theorem S1.own {k : Cd} {mb bl N b3 y : Nat} {ds : List Nat} {s B : Nat} {w A A' : World} {row : Option Nat} (h0 : Marks N ds w) (hB : w.heap.size ≤ B) (h : S1 k mb bl N b3 y ds s A) (hg : A.grownBy A' row) (hr : ∀ r, row = some r → B ≤ r ∧ ∃ o : Obj, A.heap[r]? = some o ∧ o.isCells = false) : S1 k mb bl N b3 y ds s A' :=
  ⟨h0.own h.1 hB hg (fun r e => (hr r e).1), h.2.1.own' hg fun r e => (hr r e).2, h.2.2.1.own' hg fun r e => (hr r e).2, h.2.2.2.own' hg fun r e => (hr r e).2⟩
theorem S1.keep {k : Cd} {mb bl N b3 y : Nat} {ds : List Nat} {s : Nat} {S : List Nat} {A A' : World} (h : S1 k mb bl N b3 y ds s A) (hk : KeepX S A A') (hS : ∀ i ∈ S, i < N) (hbl : bl ∉ S) (hb3 : N ≤ b3) : S1 k mb bl N b3 y ds s A' :=
  ⟨h.1.keep hk hS, hk.box h.2.1 hbl, hk.box h.2.2.1 (fun hm => by have := hS _ hm; omega), hk.box h.2.2.2 (fun hm => by have := hS _ hm; omega)⟩
theorem S1.grow {k : Cd} {mb bl N b3 y : Nat} {ds : List Nat} {s : Nat} {A A' : World} (h : S1 k mb bl N b3 y ds s A) (hg : Gr A A') : S1 k mb bl N b3 y ds s A' :=
  ⟨h.1.keep (KeepX.of (S := []) hg) (fun _ h => by cases h), h.2.1.grow hg, h.2.2.1.grow hg, h.2.2.2.grow hg⟩
theorem OwnFrom.up {β : Type} {B B' : Nat} {I : β → World → Prop} (h : OwnFrom B I) (hB : B ≤ B') : OwnFrom B' I := fun s A A' row hs hg hr => h s A A' row hs hg fun r e => ⟨by have := (hr r e).1; omega, (hr r e).2⟩
theorem KeepAt.own {S : List Nat} {w A A' : World} {row : Option Nat} {B : Nat} (h : KeepAt S w A) (hS : ∀ i ∈ S, i < B ∧ i < w.heap.size) (hg : A.grownBy A' row) (hr : ∀ r, row = some r → B ≤ r) : KeepAt S w A' :=
  ⟨Nat.le_trans h.1 hg.size, fun i hi hl => (hg.block i (Nat.lt_of_lt_of_le hl h.1) (fun e => by have := hr i e.symm; have := (hS i hi).1; omega)).trans (h.2 i hi hl)⟩
theorem I1.own {k : Cd} {mb bl N b3 y : Nat} {J : List (Tc k.cuts) → World → Prop} {ds : List Nat} {s B : Nat} {w : World} (hJ : OwnFrom B J) (h0 : Marks N ds w) (hB : w.heap.size ≤ B) : OwnFrom B (I1 k mb bl N b3 y J ds s) := fun _ A A' row ⟨⟨ys, h1, h2⟩, h3⟩ hg hr =>
  ⟨⟨ys, h1, hJ ys A A' row h2 hg hr⟩, h3.own h0 hB hg hr⟩
theorem X1.own {k : Cd} {N : Nat} {Jx : List (Tc k.cuts) → World → Prop} {ds : List Nat} {s B : Nat} {w : World} (hJ : OwnFrom B Jx) (h0 : Marks N ds w) (hB : w.heap.size ≤ B) (c : Code) : OwnFrom B (X1 k N Jx ds s c) := fun _ A A' row ⟨hc, ⟨ys, rest, h1, h2⟩, h3⟩ hg hr =>
  ⟨hc, ⟨ys, rest, h1, hJ ys A A' row h2 hg hr⟩, h0.own h3 hB hg fun r e => (hr r e).1⟩
theorem A1.own {k : Cd} {mb bl y N b3 bs1 bl1 : Nat} {u34 : Value} {s B : Nat} (x : Lf k.cuts s) (a' : Act) : OwnFrom B (fun (_ : Unit) W => A1 k mb bl y N b3 bs1 bl1 u34 s x a' W) := fun _ A A' row ⟨b4, b5, l, h0, h1, h2, h3, h4, h5⟩ hg hr =>
  ⟨b4, b5, l, h0, h1, h2, h3.own' hg fun r e => (hr r e).2, h4.own' hg fun r e => (hr r e).2, h5⟩
theorem I2.own {k : Cd} {mb bl N b3 b4 b5 y bs1 bl1 B1 : Nat} {J : List (Tc k.cuts) → World → Prop} {ds : List Nat} {s B : Nat} {l : Int} {us : List Cu} {Wb w : World} (hJ : OwnFrom B J) (h0 : Marks N ds w) (hB : w.heap.size ≤ B) (hWb : Wb.heap.size ≤ B) (hb : bs1 < Wb.heap.size ∧ bl1 < Wb.heap.size) : OwnFrom B (I2 k mb bl N b3 b4 b5 y bs1 bl1 B1 J ds s l us Wb) := fun q A A' row ⟨⟨ys, h1, h2⟩, h3, h4, h5, h6, h7⟩ hg hr =>
  ⟨⟨ys, h1, hJ ys A A' row h2 hg hr⟩, h3.own h0 hB hg hr, h4.own' hg fun r e => (hr r e).2, h5.own' hg fun r e => (hr r e).2, ownFrom_keepsFrom (β := Unit) hWb () A A' row h6 hg hr, h7.own (B := B) (fun i hi => by simp at hi; omega) hg fun r e => (hr r e).1⟩
theorem X2.own {k : Cd} {N B1 : Nat} {Jx : List (Tc k.cuts) → World → Prop} {ds : List Nat} {s B : Nat} {l : Int} {us : List Cu} {Wb w : World} (hJ : OwnFrom B Jx) (h0 : Marks N ds w) (hB : w.heap.size ≤ B) (hWb : Wb.heap.size ≤ B) (c : Code) : OwnFrom B (X2 k N B1 Jx ds s l us Wb c) := fun q A A' row ⟨hc, ⟨ys, h1, h2⟩, h3, h4⟩ hg hr =>
  ⟨hc, ⟨ys, h1, hJ ys A A' row h2 hg hr⟩, h0.own h3 hB hg (fun r e => (hr r e).1), ownFrom_keepsFrom (β := Unit) hWb () A A' row h4 hg hr⟩
end Go.Proofs.YtcngaohfemdfjaaGreat
namespace Go.Proofs.YtcngaohfemdfjaaGreat
open Go.RowKit Go.Shelf
attribute [local go_sem] Oper.semAt_some
theorem trimmings1_any (k : Cd) (mb bl y : Nat) (S : List Nat) (J Jx : List (Tc k.cuts) → World → Prop) (W : World) (hm : 0 ≤ k.cuts ∧ k.cuts ≤ 40)
    (hJ : OwnFrom W.heap.size J) (hX : OwnFrom W.heap.size Jx)
    (hY : ∀ pre x A, J pre A → pre.length < 1000000 → YieldAt Fence.wide 8 Tryz.prog y (encT x) A fun e B =>
      (e = .returned (.bool true) ∧ J (pre ++ [x]) B ∧ KeepX S A B) ∨ (e = .returned (.bool false) ∧ Jx (pre ++ [x]) B ∧ KeepX S A B))
    (hS : ∀ i ∈ S, i < W.heap.size) (hbl : Box W bl (k.lk mb) 71) (hblS : bl ∉ S) (h0 : J [] W) :
    CallsIn Fence.wide 9 Tryz.prog 131 #[.func (.yield y) #[] #[], .pointer (some ⟨bl, 0, none⟩)] W fun e B => (∃ v, e = .returned v) ∧
      ((∃ ys, usOf ys = trims k.cuts ∧ J ys B) ∨ (∃ pre, (∃ rest, trims k.cuts = usOf pre ++ rest) ∧ Jx pre B)) := by
  have HJ := Lib.hid hJ
  have HX := Lib.hid hX
  have HY := Lib.hid hY
  have HS := Lib.hid hS
  have HBL := Lib.hid hbl
  have H0 := Lib.hid h0
  have c10 := hbl.cell (i := 10) rfl
  have hll := hbl.lt
  clear hJ hX hY hS hbl h0
  have HOWN := Lib.hid (show OwnFrom W.heap.size (fun (_ : Unit) W' => (∃ ys, usOf ys = trims k.cuts ∧ J ys W') ∨ ∃ pre, (∃ rest, trims k.cuts = usOf pre ++ rest) ∧ Jx pre W') from fun _ A A' row h hg hr => by
    rcases h with ⟨ys, h1, h2⟩ | ⟨pre, h1, h2⟩
    · exact .inl ⟨ys, h1, HJ.out ys A A' row h2 hg hr⟩
    · exact .inr ⟨pre, h1, HX.out pre A A' row h2 hg hr⟩)
  refine callsIn_of_wp_marks Tryz.func131 rfl trivial ?_ rfl
  simp only [Tryz.ntmps131, List.size_toArray, List.length_cons, List.length_nil, Nat.reduceAdd, Nat.reduceSub, Array.replicate_succ, Array.replicate_zero, List.push_toArray, List.append_toArray, List.nil_append, List.cons_append]
  gi_wp2
  refine wpIn_loop (TrI k mb bl y W.heap.size J) (fun a' _ => (2 * k.cuts + 1 - intOf (a'.tmps.getD 13 undef)).toNat) ?start ?round
  case start =>
    refine ⟨0, [], undef, undef, undef, undef, undef, undef, undef, rfl, by simp; omega, ⟨List.nodup_nil, fun _ h => by cases h⟩, HBL.out.grow (Gr.alloc _ _), Box.fresh W _ _, [], rfl, ?_⟩
    exact HJ.out.alloc _ H0.out
  case round =>
    rintro a1 wr ⟨s, ds, u3, u14, u15, u16, u17, u18, u34, rfl, hs, hMk, hbl, hby, ys, hys, hJ⟩
    have HMK := Lib.hid hMk
    have HBL2 := Lib.hid hbl
    have HBY := Lib.hid hby
    have HYS := Lib.hid hys
    have HJ0 := Lib.hid hJ
    have hbll := hbl.lt
    clear hMk hbl hby hys hJ c10 hll
    clear HBL
    have HBL := HBL2
    clear HBL2
    dsimp only
    by_cases hlt : (s : Int) < 2 * k.cuts + 1
    · gi_wp2_with (first | (with_reducible refine wpListIn_stopLoad (ty := 71) rfl ?_; unfold Stop; refine wpListIn_loadPart (us := k.lk mb) row71 rfl (HBL.out.grow (Gr.alloc _ _)) rfl rfl rfl rfl ?_) | (refine ⟨trivial, ?_⟩; gi_at_call 132; refine (callsIn_wide.2 (splits_any k mb _ _)).mono ?_; rintro e w1 ⟨rfl, hBl1, hBs1, hb1⟩))
      replace hBl1 : Box w1 (wr.heap.size + 1) (k.lk mb) 71 := by simpa using hBl1
      replace hBs1 : Box w1 (wr.heap.size + 1 + 1) [.int .i64 (s : Nat)] 3 := by simpa using hBs1
      have hgw : Gr wr w1 := (Gr.alloc _ _).tr hb1
      have hB3 : Box w1 wr.heap.size [.int .i64 (s : Nat)] 3 := (Box.fresh wr [.int .i64 (s : Nat)] 3).grow hb1
      have hNw : W.heap.size < wr.heap.size := HBY.out.lt
      have hMk1 : Marks W.heap.size ds w1 := HMK.out.keep (KeepX.of (S := []) hgw) (fun _ h => by cases h)
      have hs1 : S1 k mb bl W.heap.size wr.heap.size y ds s w1 := ⟨hMk1, HBL.out.grow hgw, HBY.out.grow hgw, hB3⟩
      have hw1 : wr.heap.size + 1 + 1 < w1.heap.size := hBs1.lt
      have hsr : (0 : Int) ≤ (s : Nat) ∧ ((s : Nat) : Int) ≤ 2 * k.cuts := by omega
      have HBL1 := Lib.hid hBl1
      have HBS1 := Lib.hid hBs1
      have HS1 := Lib.hid hs1
      have HGW := Lib.hid hgw
      have HJW := Lib.hid (OwnFrom.up (I := J) (B' := w1.heap.size) HJ.out (by omega))
      have HXW := Lib.hid (OwnFrom.up (I := Jx) (B' := w1.heap.size) HX.out (by omega))
      have hJ1 : J ys w1 := HJ.out ys wr w1 none HJ0.out (Gr.grown hgw) (fun r e => by cases e)
      clear hBl1 hBs1 hb1 hs1 hgw hB3
      refine wpIn_rangeOwn rfl (by omega) (gf := 148) (lb := #[.pointer (some ⟨wr.heap.size + 1 + 1, 0, none⟩), .pointer (some ⟨wr.heap.size + 1, 0, none⟩)]) rfl trivial (enters_of Tryz.func148 (by kernel_rfl) rfl)
        (SeqStopsK.own (splits_stops k mb (wr.heap.size + 1 + 1) (wr.heap.size + 1) _ s w1 hm hsr HBS1.out HBL1.out)) (Gr.same _) KeepAt.trans
        (fun W o' => KeepAt.putObj W _ o' (by simp; omega)) (fun _ => rfl)
        (I1 k mb bl W.heap.size wr.heap.size y J ds s) (X1 k W.heap.size Jx ds s) (I1.own HJW.out hMk1 (Nat.le_refl _)) (fun c => X1.own HXW.out hMk1 (Nat.le_refl _) c)
        ⟨⟨ys, by rw [HYS.out]; simp, hJ1⟩, HS1.out⟩
        (A1 k mb bl y W.heap.size wr.heap.size (wr.heap.size + 1 + 1) (wr.heap.size + 1) u34 s) (fun x a' => A1.own x a') ?assign ?body ?done ?stop
      case assign =>
        intro y1 pre x W2 K hi hK
        have HI := Lib.hid hi
        clear hi
        unfold encL
        have hNl := HI.out.2.2.2.1.lt
        gi_wp2
        have hg2 : Gr W2 ((W2.alloc (.cells #[.int .i64 x.v] 3)).alloc (.cells #[.int .i64 ((s : Nat) - x.v)] 3)) := (Gr.alloc _ _).tr (Gr.alloc _ _)
        refine hK _ _ ((keepsOthers_of_gr hg2).from _) (KeepAt.of hg2) (OwnFrom.alloc (I1.own HJW.out hMk1 (Nat.le_refl _)) _ (OwnFrom.alloc (I1.own HJW.out hMk1 (Nat.le_refl _)) _ HI.out)) ⟨W2.heap.size, W2.heap.size + 1, x.v, rfl, by omega, by omega, ?_, ?_, rfl⟩
        · exact (Box.fresh W2 [.int .i64 x.v] 3).grow (Gr.alloc _ _)
        · have := Box.fresh (W2.alloc (.cells #[.int .i64 x.v] 3)) [.int .i64 ((s : Nat) - x.v)] 3
          simpa using this
      case body =>
        rintro y1 pre x a' Wb hyl ⟨r1, hyr⟩ ⟨⟨ys1, hys1, hJ1⟩, hS1⟩ ⟨b4, b5, l, hl, hb4, hb5, hB4, hB5, rfl⟩ hN1
        have HSB := Lib.hid hS1
        have HYS1 := Lib.hid hys1
        have HJ1 := Lib.hid hJ1
        have HB4 := Lib.hid hB4
        have HB5 := Lib.hid hB5
        have HL := Lib.hid hl
        have HYR := Lib.hid hyr
        have hyl2 : y1 < Wb.heap.size := (Array.getElem?_eq_some_iff.1 hyr).1
        have c3 := hS1.2.2.2.cell (i := 0) rfl
        have l3 := hS1.2.2.2.lt
        have lN := hS1.2.2.1.lt
        have ll := hS1.2.1.lt
        have hmem := x.mem
        have HME := Lib.hid hmem
        clear hS1 hys1 hJ1 hB4 hB5 hl hyr hmem
        dsimp only
        have hlk := HSB.out.2.1
        have HLK := Lib.hid hlk
        clear hlk
        gi_wp2_with (first | (with_reducible refine wpListIn_stopLoad (ty := 71) rfl ?_; unfold Stop; refine wpListIn_loadPart (us := k.lk mb) row71 rfl (HLK.out) rfl rfl rfl rfl ?_) | (refine ⟨trivial, ?_⟩; gi_at_call 132; refine (CallsIn.inRound y1 (callsIn_wide.2 (splits_any k mb _ _))).mono ?_; rintro e w2 ⟨rfl, hBl2, hBs2, hb2⟩))
        have hg2 : Gr Wb w2 := hb2
        have hw2 : Wb.heap.size + 1 < w2.heap.size := hBs2.lt
        have hS2 := HSB.out.grow hg2
        have hJ2 : J ys1 w2 := HJ.out ys1 Wb w2 none HJ1.out (Gr.grown hg2) (fun r e => by cases e)
        have HBL2 := Lib.hid hBl2
        have HBS2 := Lib.hid hBs2
        have HS2 := Lib.hid hS2
        have HG2 := Lib.hid hg2
        have HJ2 := Lib.hid hJ2
        have HJW2 := Lib.hid (OwnFrom.up (I := J) (B' := w2.heap.size) HJ.out (by omega))
        have HXW2 := Lib.hid (OwnFrom.up (I := Jx) (B' := w2.heap.size) HX.out (by omega))
        have hyr2 : w2.heap[y1]? = some (.loop r1) := (hg2.block _ hyl2).trans HYR.out
        have hus : (trimsTo k.cuts s ++ (pre.map Lf.v).flatMap (tRow k.cuts s)).length ≤ 200000 := by
          have h1 := trimsTo_short (m := k.cuts) (s := s) hm (by omega)
          have h2 := flat_short (tRow k.cuts s) 41 (fun l => tRow_short hm) (pre.map Lf.v)
          rw [List.length_map] at h2
          rw [List.length_append]
          omega
        have HUS := Lib.hid hus
        clear hBl2 hBs2 hb2 hg2 hS2 hJ2 c3 hus
        refine wpIn_rangeFunc_ownN rfl hyr2 (by omega) (gf := 148) (lb := #[.pointer (some ⟨Wb.heap.size + 1, 0, none⟩), .pointer (some ⟨Wb.heap.size, 0, none⟩)]) rfl trivial (enters_of Tryz.func148 (by kernel_rfl) rfl)
          (SeqStopsK.inRound y1 (splits_stops k mb (Wb.heap.size + 1) Wb.heap.size _ s w2 hm hsr HBS2.out HBL2.out)) (fun h k => KeepAt.trans h k)
          (fun W l o o' hl _ _ _ => KeepAt.putObj W l o' (by simp; omega)) (Below.refl _ _) (fun _ => rfl)
          (I2 k mb bl W.heap.size wr.heap.size b4 b5 y (wr.heap.size + 1 + 1) (wr.heap.size + 1) w1.heap.size J ds s l (trimsTo k.cuts s ++ (pre.map Lf.v).flatMap (tRow k.cuts s)) Wb)
          (X2 k W.heap.size w1.heap.size Jx ds s l (trimsTo k.cuts s ++ (pre.map Lf.v).flatMap (tRow k.cuts s)) Wb)
          (I2.own HJW2.out HS2.out.1 (Nat.le_refl _) (by omega) (by have := HSB.out.2.2.2.lt; omega)) (fun c => X2.own HXW2.out HS2.out.1 (Nat.le_refl _) (by omega) c)
          ⟨⟨ys1, by rw [HYS1.out]; simp, HJ2.out⟩, HS2.out, HB4.out.grow HG2.out, HB5.out.grow HG2.out, (keepsOthers_of_gr HG2.out).from _, KeepAt.of HG2.out⟩
          (A2 k mb bl y W.heap.size wr.heap.size b4 b5 (wr.heap.size + 1 + 1) (wr.heap.size + 1) (.func (.func 148) #[] #[.pointer (some ⟨Wb.heap.size + 1, 0, none⟩), .pointer (some ⟨Wb.heap.size, 0, none⟩)]) u34 l s) (fun x a' => fun _ A A' row h hg hr => h) ?_ ?_ ?_ ?_
        · intro y2 pre2 x2 W2 K hi hK
          have HI := Lib.hid hi
          clear hi
          unfold encL
          gi_wp2
          exact hK _ _ (KeepsFrom.refl _ _) (KeepAt.refl _ _) HI.out ⟨x2.v, rfl, rfl⟩
        · rintro y2 pre2 x2 a2 W2 hyl2' - ⟨⟨ys2, hys2, hJ2⟩, hS2, hB4, hB5, hKF, hKA⟩ ⟨r, hr, rfl⟩ hN2
          have cN := hS2.2.2.1.cell (i := 0) rfl
          have c4 := hB4.cell (i := 0) rfl
          have c5 := hB5.cell (i := 0) rfl
          have lN := hS2.2.2.1.lt
          have l4 := hB4.lt
          have l5 := hB5.lt
          have hmr : r ∈ lefts k.cuts s := by rw [hr]; exact x2.mem
          have hmemu : (⟨l, s - l, r, s - r⟩ : Cu) ∈ trims k.cuts := mem_at (mem_row (by rw [HL.out]; exact HME.out) hmr)
          have hylen : ys2.length < 1000000 := by
            have h1 := congrArg List.length hys2
            unfold usOf at h1
            rw [List.length_map, List.length_append, List.length_map, List.length_map] at h1
            have := HUS.out
            omega
          obtain ⟨fn3, t3, a3, b3, hy3, hR3⟩ := HY.out ys2 ⟨_, hmemu⟩ W2 hJ2 hylen
          dsimp only [encT] at hy3
          have HS2' := Lib.hid hS2
          have HB4' := Lib.hid hB4
          have HB5' := Lib.hid hB5
          have HKF := Lib.hid hKF
          have HKA := Lib.hid hKA
          have HYS2 := Lib.hid hys2
          have HR := Lib.hid hr
          clear hS2 hB4 hB5 hKF hKA hys2 hJ2 hr hylen hmr
          dsimp only
          gi_wp2
          refine (RoundIn.deep hR3).mono ?_
          have hSN : ∀ i ∈ S, i < W.heap.size := HS.out
          have hn4 : b4 ∉ S := fun h => by have := hSN _ h; omega
          have hn5 : b5 ∉ S := fun h => by have := hSN _ h; omega
          have hnb : ∀ i, W.heap.size ≤ i → i ∉ S := fun i hi h => by have := hSN _ h; omega
          have HSN := Lib.hid hSN
          have HNB := Lib.hid hnb
          have HN4 := Lib.hid hn4
          have HN5 := Lib.hid hn5
          clear hSN hnb hn4 hn5 hy3 hR3 cN c4 c5
          rintro e W3 (⟨rfl, hJ3, hk3⟩ | ⟨rfl, hx3, hk3⟩)
          · have HK3 := Lib.hid hk3
            have HJ3 := Lib.hid hJ3
            clear hk3 hJ3
            gi_wp2
            refine ⟨HK3.out.from (fun i hi => by have := HSN.out i hi; omega), HK3.out.at (fun i hi => HNB.out i (by simp at hi; omega)), ⟨ys2 ++ [_], ?_, HJ3.out⟩, HS2'.out.keep HK3.out HSN.out hblS (by omega), HK3.out.box HB4'.out HN4.out, HK3.out.box HB5'.out HN5.out, HKF.out.trans (HK3.out.from (fun i hi => by have := HSN.out i hi; omega)), HKA.out.trans (HK3.out.at (fun i hi => HNB.out i (by simp at hi; omega)))⟩
            have e1 := HYS2.out
            have e2 := HR.out
            unfold usOf at *
            rw [List.map_append, e1, List.map_append, List.map_append, List.append_assoc]
            simp [e2]
          · have HK3 := Lib.hid hk3
            have HX3 := Lib.hid hx3
            clear hk3 hx3
            gi_wp2
            refine ⟨HK3.out.from (fun i hi => by have := HSN.out i hi; omega), rfl, ⟨ys2 ++ [_], ?_, HX3.out⟩, HS2'.out.1.keep HK3.out HSN.out, HKF.out.trans (HK3.out.from (fun i hi => by have := HSN.out i hi; omega))⟩
            have e1 := HYS2.out
            have e2 := HR.out
            unfold usOf at *
            rw [List.map_append, e1, List.map_append, List.map_append, List.append_assoc]
            simp [e2]
        · rintro pre2 W2 hS2 ⟨⟨ys2, hys2, hJ2⟩, hS3, -, -, hKF, hKA⟩
          have HKF := Lib.hid hKF
          have HKA := Lib.hid hKA
          have HYS2 := Lib.hid hys2
          have HJ3 := Lib.hid hJ2
          have HS3 := Lib.hid hS3
          have HSS := Lib.hid hS2
          clear hKF hKA hys2 hJ2 hS3 hS2
          gi_wp2
          refine ⟨HKF.out, HKA.out, ⟨ys2, ?_, HJ3.out⟩, HS3.out⟩
          rw [HYS2.out, HSS.out, List.map_append, List.flatMap_append, ← List.append_assoc]
          simp [tRow, HL.out]
        · rintro c pre2 W2 ⟨rest2, hS2⟩ ⟨rfl, ⟨ys2, hys2, hJx⟩, hMk2, hKF⟩
          have HKF := Lib.hid hKF
          have HYS2 := Lib.hid hys2
          have HJ3 := Lib.hid hJx
          have HM3 := Lib.hid hMk2
          have HSS := Lib.hid hS2
          clear hKF hys2 hJx hMk2 hS2
          gi_wp2
          refine ⟨HKF.out, rfl, ⟨ys2, rest2.map (fun r => ⟨l, s - l, r, s - r⟩), ?_, HJ3.out⟩, HM3.out⟩
          rw [HYS2.out, List.map_append, List.flatMap_append, List.append_assoc, List.append_assoc, ← List.map_append, ← HSS.out]
          simp [tRow, HL.out]
      case done =>
        rintro D pre W2 hD hSS ⟨⟨ys1, hys1, hJ1⟩, hS1⟩ hK
        have HYS1 := Lib.hid hys1
        have HJ1 := Lib.hid hJ1
        have HS := Lib.hid hS1
        have HK := Lib.hid hK
        have HSS := Lib.hid hSS
        clear hys1 hJ1 hS1 hK hSS
        gi_wp2
        refine ⟨⟨s + 1, D :: ds, _, _, _, _, _, _, _, rfl, by omega, HS.out.1.cons hMk1 hD (by omega) HK.out, HS.out.2.1, HS.out.2.2.1, ys1, ?_, HJ1.out⟩, by simp [intOf]; omega⟩
        rw [trimsTo_succ, HYS1.out, HSS.out, trimsAt_row]
      case stop =>
        rintro D c pre W2 hD ⟨rest, hrest⟩ ⟨rfl, ⟨ys1, rest1, hys1, hJx⟩, hMk2⟩ hK
        have HYS1 := Lib.hid hys1
        have HJ1 := Lib.hid hJx
        have HM := Lib.hid (hMk2.cons hMk1 hD (by omega) hK)
        have HR := Lib.hid hrest
        clear hys1 hJx hMk2 hK hrest
        gi_wp2
        refine leaves_marks (B := W.heap.size) (J := fun W' => (∃ ys, usOf ys = trims k.cuts ∧ J ys W') ∨ ∃ pre, (∃ rest, trims k.cuts = usOf pre ++ rest) ∧ Jx pre W') HOWN.out rfl (D :: ds) W2 HM.out (.inr ⟨ys1, ?_, HJ1.out⟩)
        obtain ⟨rest2, hr2⟩ := trimsTo_pre (m := k.cuts) (s := s) hlt
        refine ⟨rest1 ++ rest.flatMap (tRow k.cuts s) ++ rest2, ?_⟩
        rw [hr2, trimsAt_row, HR.out, List.flatMap_append, ← List.append_assoc, ← HYS1.out]
        simp only [List.append_assoc]
    · gi_wp2
      have hse : s = (2 * k.cuts + 1).toNat := by omega
      refine leaves_marks (B := W.heap.size) (J := fun W' => (∃ ys, usOf ys = trims k.cuts ∧ J ys W') ∨ ∃ pre, (∃ rest, trims k.cuts = usOf pre ++ rest) ∧ Jx pre W') HOWN.out rfl ds wr HMK.out (.inl ⟨ys, ?_, HJ0.out⟩)
      rw [HYS.out, trims_to, hse]
end Go.Proofs.YtcngaohfemdfjaaGreat
