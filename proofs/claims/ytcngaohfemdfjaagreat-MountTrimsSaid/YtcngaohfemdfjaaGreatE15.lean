import Derived.Test.YtcngaohfemdfjaaGreatE06
import Derived.Test.YtcngaohfemdfjaaGreatE13
set_option linter.unusedVariables false
set_option linter.unusedSimpArgs false
set_option maxRecDepth 100000
set_option maxHeartbeats 60000000
namespace Go.Proofs.YtcngaohfemdfjaaGreat
open Go.RowKit
def Pr.view (p : Pr) (n : Nat) : Option Vw :=
  match p.l[n]?, p.seen[n]? with
  | some t, some s => if s.why p.pw.1 p.pw.2 = 0 then some ⟨t.a, t.b, t.e, t.f, s.lo, s.hi⟩ else none
  | _, _ => none
def Pr.seesTo (p : Pr) (n : Nat) : List (Int × Vw) := (List.range n).filterMap fun i => (p.view i).map fun x => ((i : Int), x)
def Pr.sees (p : Pr) : List (Int × Vw) := p.seesTo p.l.length
theorem Pr.seesTo_succ (p : Pr) (n : Nat) : p.seesTo (n + 1) = p.seesTo n ++ ((p.view n).map fun x => ((n : Int), x)).toList := by
  unfold Pr.seesTo
  rw [List.range_succ, List.filterMap_append]
  cases hv : p.view n <;> simp [hv]
theorem lk_none {es : List (Int × Vw)} {n : Int} (h : ∀ q ∈ es, q.1 ≠ n) : lk es n = none := by
  induction es with
  | nil => rfl
  | cons q es ih =>
    obtain ⟨k, x⟩ := q
    unfold lk
    rw [if_neg (fun e => h (k, x) (by simp) e.symm)]
    exact ih fun q hq => h q (by simp [hq])
theorem Pr.seesTo_lt (p : Pr) (n : Nat) : ∀ q ∈ p.seesTo n, q.1 < n := by
  intro q hq
  unfold Pr.seesTo at hq
  obtain ⟨i, hi, he⟩ := List.mem_filterMap.1 hq
  have := List.mem_range.1 hi
  cases hv : p.view i with
  | none => rw [hv] at he; cases he
  | some x => rw [hv] at he; cases he; simp; omega
theorem Pr.view_some {p : Pr} {n : Nat} {t : Th} {s : Sg} (ht : p.l[n]? = some t) (hs : p.seen[n]? = some s) : p.view n = if s.why p.pw.1 p.pw.2 = 0 then some ⟨t.a, t.b, t.e, t.f, s.lo, s.hi⟩ else none := by
  unfold Pr.view; rw [ht, hs]
theorem Pr.seen_at {p : Pr} {n : Nat} {t : Th} (ht : p.l[n]? = some t) : ∃ s, p.seen[n]? = some s ∧ s = t.see p.ti p.ne p.fa := ⟨_, by unfold Pr.seen seenOf; rw [List.getElem?_map, ht]; rfl, rfl⟩
theorem Pr.why_at {p : Pr} (hok : p.ok = true) (hpw : p.pw.1 ≤ p.pw.2) {n : Nat} {s : Sg} (hs : p.seen[n]? = some s) : p.why n = (s.why p.pw.1 p.pw.2, 0) := by
  unfold Pr.why Pr.at
  rw [if_pos hok, if_pos (by omega), Int.toNat_natCast, hs]
  simp [hpw]
theorem Pr.shift_at {p : Pr} (hok : p.ok = true) {n : Nat} {s : Sg} (hs : p.seen[n]? = some s) : p.shift n = (s.lo, s.hi, 0) := by
  unfold Pr.shift Pr.at
  rw [if_pos hok, if_pos (by omega), Int.toNat_natCast, hs]
theorem wpList_stopUpdate {P : Program} {ops : Array Oper} {rest : List Oper} {o : Oper} {a : Act} {w : World} {Q : Exit → Act → World → Prop} {ty : TypeId} {m k v : Operand} (_ : o.op = .mapUpdate ty m k v) (h : Stop (wpList P ops Q (o :: rest) a w)) : wpList P ops Q (o :: rest) a w := h
theorem see_ok' (k : Cd) (w : World) (hT : TsA k.p.l (.slice k.sp k.p.l.length k.cap) w) (hok : k.p.ok = true) (hpw : k.p.pw.1 ≤ k.p.pw.2) :
    Calls Tryz.prog 91 #[.agg k.pr.toArray] w fun e w' => e = .returned (.map (some (w.heap.size + 1))) ∧ MapAt k.p.sees (w.heap.size + 1) w' ∧ Below w.heap.size w w' := by
  have hmm := @run_makeMap Tryz.prog
  have HT := Lib.hid (fun (W : World) (hb : Below w.heap.size w W) => hT.below rfl hb)
  have HTT := Lib.hid hT
  have hlen : k.p.l.length ≤ 1000 := by
    obtain ⟨p, cap, -, h⟩ := hT.len
    exact h
  clear hT
  have e7 : ∀ h : 7 < k.pr.length, k.pr[7] = .slice k.sp k.p.l.length k.cap := fun _ => rfl
  have hl : k.pr.length = 8 := rfl
  go_enter Tryz.func91, Tryz.ntmps91
  go_wp2
  go_loopw [14] (fun i wr => ∃ n : Nat, n ≤ k.p.l.length ∧ i = .int .i64 n ∧ MapAt (k.p.seesTo n) (w.heap.size + 1) wr ∧ Box wr w.heap.size k.pr 26 ∧ Below w.heap.size w wr) (fun i _ => k.p.l.length - (intOf i).toNat)
  case atStart =>
    refine ⟨0, Nat.zero_le _, rfl, ?_, (Box.fresh w k.pr 26).grow (Gr.alloc _ _), ((Below.refl _ _).alloc (Nat.le_refl _) _).alloc (by simp) _⟩
    have := MapAt.new (w.alloc (Obj.cells k.pr.toArray 26))
    have e0 : k.p.seesTo 0 = [] := rfl
    rw [e0]
    simpa using this
  case round =>
    obtain ⟨n, hn, rfl, hM, hP, hB⟩ := hrel
    have HM := Lib.hid hM
    have HP := Lib.hid hP
    have HB := Lib.hid hB
    clear hM hP hB
    by_cases hlt : n < k.p.l.length
    · obtain ⟨t, ht⟩ : ∃ t, k.p.l[n]? = some t := ⟨_, List.getElem?_eq_getElem hlt⟩
      obtain ⟨s, hs, -⟩ := Pr.seen_at ht
      have hw := Pr.why_at hok hpw hs
      have hsh := Pr.shift_at hok hs
      have hv := Pr.view_some ht hs
      have hsc := Pr.seesTo_succ k.p n
      rw [hv] at hsc
      have HW := Lib.hid hw
      have HSH := Lib.hid hsh
      have HSC := Lib.hid hsc
      clear hw hsh hsc hv
      have hcl := HTT.out
      obtain ⟨-, hcl⟩ := hcl
      rcases hcl with ⟨e, -⟩ | ⟨b, o, cap, hsl, hbl, hc⟩
      · rw [e] at hlt; simp at hlt
      have X := CsF.nine (CsF.grow (w' := wr) hbl HB.out (hc n t ht))
      obtain ⟨x0, x1, x2, x3, x4, x5, x6, x7, x8⟩ := X
      have hbw : b < wr.heap.size := Nat.lt_of_lt_of_le hbl HB.out.size
      obtain ⟨hsp1, -, hcap⟩ : k.sp = some ⟨b, o, none⟩ ∧ k.p.l.length = k.p.l.length ∧ k.cap = cap := by simpa using hsl
      subst hcap
      rw [hsp1] at e7
      rw [hsp1]
      clear hc hsl
      have hal := @cal
      go_wp2_with (first | (with_reducible refine wsl (ty := 26) rfl ?_; unfold Stop; refine wlb row26 rfl (HP.out.grow (Gr.alloc _ _)) rfl rfl rfl ?_))
      refine (why_is (p := k.p) (v := .slice k.sp k.p.l.length k.cap) HW.out (HT.out _ (bgr HB.out HB.out.size (Gr.alloc _ _)))).mono ?_
      rintro e w1 ⟨rfl, hb1⟩
      have HG1 := Lib.hid (show Gr wr w1 from (Gr.alloc _ _).tr hb1)
      have HTB := Lib.hid ((Box.fresh wr [.int .i64 t.a, .int .i64 t.b, .int .i64 t.c, .int .i64 t.d, .int .i64 t.e, .int .i64 t.f, .int .i64 t.g, .int .i64 t.h, .int .i64 t.z] 52).grow hb1)
      clear hb1 x0 x1 x2 x3 x4 x5 x6 x7 x8
      by_cases hz : s.why k.p.pw.1 k.p.pw.2 = 0
      · have hsc := HSC.out
        rw [if_pos hz] at hsc
        have HSC2 := Lib.hid hsc
        clear hsc HSC
        rw [hz]
        clear hz
        go_wp2_with (first | (with_reducible refine wsl (ty := 26) rfl ?_; unfold Stop; refine wlb row26 rfl (HP.out.grow HG1.out) rfl rfl rfl ?_))
        refine (shift_is (p := k.p) (v := .slice k.sp k.p.l.length k.cap) HSH.out (HT.out _ (bgr HB.out HB.out.size HG1.out))).mono ?_
        rintro e w2 ⟨rfl, hb2⟩
        have HG2 := Lib.hid (HG1.out.tr hb2)
        have hxb := HTB.out.grow hb2
        have hxl := hxb.lt
        have e0 := hxb.cell (i := 0) rfl
        have e1 := hxb.cell (i := 1) rfl
        have e4 := hxb.cell (i := 4) rfl
        have e5 := hxb.cell (i := 5) rfl
        clear hb2 hxb
        have hm2 := HM.out.grow HG2.out
        have hnone : lk (k.p.seesTo n) n = none := lk_none fun q hq => by have := Pr.seesTo_lt k.p n q hq; omega
        have HN := Lib.hid hnone
        have HM2 := Lib.hid (hm2.grow (Gr.alloc w2 (.cells #[.int .i64 s.lo, .int .i64 s.hi] 23)))
        clear hnone hm2
        go_wp2_with (first | (with_reducible refine wpList_stopUpdate rfl ?_; unfold Stop; refine wpList_update (x := ⟨t.a, t.b, t.e, t.f, s.lo, s.hi⟩) HM2.out HN.out rfl rfl rfl rfl rfl ?_; intro w3 hM3 hO3))
        refine ⟨⟨n + 1, by omega, by go_num, ?_, ?_, ?_⟩, by simp [intOf]; omega⟩
        · rw [HSC2.out]
          simpa using hM3
        · exact hO3.box ((HP.out.grow HG2.out).grow (Gr.alloc _ _)) (by omega)
        · exact Only.gr hO3 (bgr (bgr HB.out HB.out.size HG2.out) (by have := HG2.out.size; have := HB.out.size; omega) (Gr.alloc _ _)) (by omega)
      · have hsc := HSC.out
        rw [if_neg hz] at hsc
        have HSC2 := Lib.hid hsc
        clear hsc HSC
        go_wp2
        refine ⟨⟨n + 1, by omega, by go_num, ?_, HP.out.grow HG1.out, bgr HB.out HB.out.size HG1.out⟩, by simp [intOf]; omega⟩
        rw [HSC2.out]
        simpa using HM.out.grow HG1.out
    · have : n = k.p.l.length := by omega
      subst this
      go_wp2
      go_ret
      exact ⟨rfl, HM.out, HB.out⟩
end Go.Proofs.YtcngaohfemdfjaaGreat
namespace Go.Proofs.YtcngaohfemdfjaaGreat
open Go.RowKit Go.Shelf
def KeepAt (S : List Nat) (W W' : World) : Prop := W.heap.size ≤ W'.heap.size ∧ ∀ k ∈ S, k < W.heap.size → W'.heap[k]? = W.heap[k]?
theorem KeepAt.refl (S : List Nat) (W : World) : KeepAt S W W := ⟨Nat.le_refl _, fun _ _ _ => rfl⟩
theorem KeepAt.trans {S : List Nat} {A B C : World} (h : KeepAt S A B) (k : KeepAt S B C) : KeepAt S A C :=
  ⟨Nat.le_trans h.1 k.1, fun i hi hl => (k.2 i hi (Nat.lt_of_lt_of_le hl h.1)).trans (h.2 i hi hl)⟩
theorem KeepAt.of {S : List Nat} {A B : World} (h : Gr A B) : KeepAt S A B := ⟨h.size, fun _ _ hl => h.block _ hl⟩
theorem KeepAt.only {S : List Nat} {A B : World} {b : Nat} (h : Only b A B) (hb : b ∉ S) : KeepAt S A B := ⟨h.size, fun k hk hl => h.keep k (fun e => hb (e ▸ hk)) hl⟩
theorem KeepAt.box {S : List Nat} {A B : World} (h : KeepAt S A B) {b : Nat} {vs : List Value} {T : TypeId} (hb : Box A b vs T) (hq : b ∈ S) : Box B b vs T := (h.2 b hq hb.lt).trans hb
theorem KeepAt.map {S : List Nat} {A B : World} (h : KeepAt S A B) {es : List (Int × Vw)} {mb : Nat} (hb : MapAt es mb A) (hq : mb ∈ S) : MapAt es mb B := by
  have hl := hb.lt
  obtain ⟨l, c, h1, h2⟩ := hb
  exact ⟨l, c, (h.2 mb hq hl).trans h1, h2⟩
theorem KeepAt.putObj {S : List Nat} (W : World) (l : Nat) (o' : Obj) (h : l ∉ S) : KeepAt S W (W.putObj l o') :=
  ⟨(grownBy_putObj' W l o').size, fun k hk hl => (grownBy_putObj' W l o').block k hl fun e => h ((Option.some.inj e) ▸ hk)⟩
theorem KeepAt.set {S : List Nat} (W : World) (b i : Nat) (v : Value) (h : b ∉ S) : KeepAt S W (W.setCell ⟨b, i, none⟩ v) :=
  ⟨by simp, fun k hk _ => Below.heap_setCell _ _ _ _ (fun (e : k = b) => h (e ▸ hk))⟩
theorem KeepAt.mono {S S' : List Nat} {A B : World} (h : KeepAt S A B) (hs : ∀ k ∈ S', k ∈ S) : KeepAt S' A B := ⟨h.1, fun k hk hl => h.2 k (hs k hk) hl⟩
theorem YieldAt.depth {F : Fence} {n m : Nat} {P : Program} {l : Nat} {args : Array Value} {W : World} {R : Ending → World → Prop} (hd : F.depth = none) (h : YieldAt F n P l args W R) : YieldAt F m P l args W R := by
  obtain ⟨fn, tmps, assign, body, hy, hf, hR⟩ := h
  exact ⟨fn, tmps, assign, body, hy, hf, fun c cs _ => hR c cs fun d h => by rw [hd] at h; cases h⟩
theorem CallsIn.depth {F : Fence} {n m : Nat} {P : Program} {f : FuncId} {args : Array Value} {w : World} {R : Ending → World → Prop} (hd : F.depth = none) (h : CallsIn F n P f args w R) : CallsIn F m P f args w R :=
  ⟨h.1, fun cs _ => h.2 cs fun d h => by rw [hd] at h; cases h⟩
theorem SeqStopsK.depth {α : Type} {F : Fence} {n m : Nat} {P : Program} {g : Nat} {lb : Array Value} {encs : α → Array Value} {Kp : World → World → Prop} {S Sp : List α → Prop} {N : Nat} {w : World} (hd : F.depth = none)
    (h : SeqStopsK F n P g lb encs Kp S Sp N w) : SeqStopsK F m P g lb encs Kp S Sp N w := fun y J Jx W hW hAJ hAX hY h0 =>
  CallsIn.depth hd (h y J Jx W hW hAJ hAX (fun pre x W1 hJ hN => YieldAt.depth hd (hY pre x W1 hJ hN)) h0)
end Go.Proofs.YtcngaohfemdfjaaGreat
namespace Go.Proofs.YtcngaohfemdfjaaGreat
open Go.RowKit
def mreasonsV : Value := .agg #[.iface 168 (.agg #[]), .iface 169 (.agg #[]), .iface 170 (.agg #[]), .iface 171 (.agg #[]), .iface 172 (.agg #[])]
theorem mreasons_any (w : World) :
    Calls Tryz.prog 94 #[] w fun e w' => e = .returned mreasonsV ∧ Below w.heap.size w w' := by
  unfold mreasonsV
  go_enter Tryz.func94, Tryz.ntmps94
  go_wp2
  exact bodyPost_ret (v := mreasonsV) (by simp [results, Tryz.results94, go_sem, mreasonsV]) rfl ⟨rfl, (Below.refl _ _).alloc (Nat.le_refl _) _⟩
theorem things_any (k : Cd) (mb : Nat) (w : World) :
    Calls Tryz.prog 49 #[.agg (k.lk mb).toArray] w fun e w' => e = .returned (.func (.func 92) #[] #[.pointer (some ⟨w.heap.size, 0, none⟩)]) ∧ Box w' w.heap.size (k.lk mb) 71 ∧ Below w.heap.size w w' := by
  have hmf : ∀ (fn : Fn) (first cap : Array Value) (w : World), (Instr.makeFunc fn first cap).run Tryz.prog w = .ok (.func fn first cap) w := fun _ _ _ _ => rfl
  have hl : (k.lk mb).length = 18 := rfl
  go_enter Tryz.func49, Tryz.ntmps49
  go_wp2
  go_ret
  exact ⟨rfl, Box.fresh w (k.lk mb) 71, (Below.refl _ _).alloc (Nat.le_refl _) _⟩
theorem trimmings_any (k : Cd) (mb : Nat) (w : World) :
    Calls Tryz.prog 108 #[.agg (k.lk mb).toArray] w fun e w' => e = .returned (.func (.func 131) #[] #[.pointer (some ⟨w.heap.size, 0, none⟩)]) ∧ Box w' w.heap.size (k.lk mb) 71 ∧ Below w.heap.size w w' := by
  have hmf : ∀ (fn : Fn) (first cap : Array Value) (w : World), (Instr.makeFunc fn first cap).run Tryz.prog w = .ok (.func fn first cap) w := fun _ _ _ _ => rfl
  have hl : (k.lk mb).length = 18 := rfl
  go_enter Tryz.func108, Tryz.ntmps108
  go_wp2
  go_ret
  exact ⟨rfl, Box.fresh w (k.lk mb) 71, (Below.refl _ _).alloc (Nat.le_refl _) _⟩
def SplitsPost (k : Cd) (mb : Nat) (s : Int) (w : World) (e : Ending) (w' : World) : Prop := e = .returned (.func (.func 148) #[] #[.pointer (some ⟨w.heap.size + 1, 0, none⟩), .pointer (some ⟨w.heap.size, 0, none⟩)]) ∧ Box w' w.heap.size (k.lk mb) 71 ∧ Box w' (w.heap.size + 1) [.int .i64 s] 3 ∧ Below w.heap.size w w'
theorem splits_any (k : Cd) (mb : Nat) (s : Int) (w : World) :
    Calls Tryz.prog 132 #[.agg (k.lk mb).toArray, .int .i64 s] w (SplitsPost k mb s w) := by
  have hmf : ∀ (fn : Fn) (first cap : Array Value) (w : World), (Instr.makeFunc fn first cap).run Tryz.prog w = .ok (.func fn first cap) w := fun _ _ _ _ => rfl
  have hl : (k.lk mb).length = 18 := rfl
  have H1 := Lib.hid (show Box ((w.alloc (Obj.cells (k.lk mb).toArray 71)).alloc (Obj.cells #[.int .i64 s] 3)) (w.heap.size + 1) [.int .i64 s] 3 by
    have := Box.fresh (w.alloc (Obj.cells (k.lk mb).toArray 71)) [.int .i64 s] 3
    simpa using this)
  go_enter Tryz.func132, Tryz.ntmps132
  go_wp2
  go_ret
  exact ⟨rfl, (Box.fresh w (k.lk mb) 71).grow (Gr.alloc _ _), H1.out, ((Below.refl _ _).alloc (Nat.le_refl _) _).alloc (by simp) _⟩
end Go.Proofs.YtcngaohfemdfjaaGreat
