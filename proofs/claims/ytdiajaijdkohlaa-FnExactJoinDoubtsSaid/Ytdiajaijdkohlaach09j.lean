/- Contracts of the functions that the laws run. -/
import Derived.Test.Ytdiajaijdkohlaach09d
import Derived.Test.Ytdiajaijdkohlaaasc9
import Derived.Test.YtdiajaijdkohlaaEngB
namespace Go.Proofs.Ytdiajaijdkohlaa
open Go Go.Eng
set_option linter.unusedSimpArgs false
set_option linter.unusedVariables false
set_option maxRecDepth 10000
set_option maxHeartbeats 1000000
theorem Repx_pre {F : Nat → Prop} {h : Array Obj} {s : Nat} {c : Array Value} {xs ys : List D} (r : Repx F h Beta.none s c (xs ++ ys) 0) : Repx F h Beta.none s c xs 0 := by
  have := Repx.take_drop r 0 xs.length
  simpa using this
theorem tabOne {nm : Nm} {o : OO} {n : Nm} {o' : OO} (h : (Tab.of [(nm, o)]).get n = some o') : n = nm ∧ o' = o := by
  simp only [Tab.of, Tab.get, Tab.set] at h
  split at h
  · rename_i e; simp only [Option.some.injEq] at h; exact ⟨e.symm, h.symm⟩
  · simp [Tab.nil] at h
/-- the tail of a new row is forgotten -/
theorem pco_cut {P : Program} {f : FuncId} {ds : List D} {tin : Tab} {r z : D} {s : Nat} {xs ys : List D} (h : PCo P f ds tin r (Tab.of [((0, 1), .arr false s z (xs ++ ys))])) : PCo P f ds tin r (Tab.of [((0, 1), .arr false s z xs)]) := by
  refine ⟨h.1, fun w F β γ vs O G hr => (h.2 w F β γ vs O G hr).mono fun e w' => ?_⟩
  rintro ⟨v, F', β', γ', g', he, O', hβ, hv⟩
  refine ⟨v, F', β', γ', g', he, ?_, hβ, hv⟩
  have g1 : (Tab.of [((0, 1), OO.arr false s z (xs ++ ys))]).get (0, 1) = some (.arr false s z (xs ++ ys)) := by simp [Tab.of, Tab.get, Tab.set]
  exact {
    F0F := O'.F0F, Fsrc := O'.Fsrc, Flt := O'.Flt, keep := O'.keep, size := O'.size, os := O'.os, tp := O'.tp, out := O'.out
    gen := fun nm x h => by
      rcases O'.gen nm x h with h1 | ⟨h1, h2⟩
      · exact .inl h1
      · refine .inr ⟨h1, ?_⟩
        obtain ⟨o, ho⟩ := Option.isSome_iff_exists.1 h2
        obtain ⟨rfl, _⟩ := tabOne ho
        simp [Tab.of, Tab.get, Tab.set]
    own := fun nm o h => by
      obtain ⟨rfl, rfl⟩ := tabOne h
      obtain ⟨bo, cap, h1, h2, h3⟩ := O'.own _ _ g1
      refine ⟨bo, cap, h1, fun hb => ⟨(List.append_eq_nil_iff.1 (h2 hb).1).1, (h2 hb).2⟩, fun b hb => ?_⟩
      obtain ⟨k1, c, e, k2, k3, k4, k5⟩ := h3 b hb
      refine ⟨k1, c, e, k2, k3, by simp at k4; omega, ?_⟩
      simp only [RowP_false] at k5 ⊢
      exact Repx_pre k5
    fps := fun nm o h hd x hx => by
      obtain ⟨rfl, rfl⟩ := tabOne h
      exact O'.fps _ _ g1 (by simp) x hx
    dis := fun nm nm' o o' h h' _ _ hne => by
      obtain ⟨rfl, rfl⟩ := tabOne h
      obtain ⟨rfl, rfl⟩ := tabOne h'
      exact absurd rfl hne }
theorem nil_slice {F : Nat → Prop} {h : Array Obj} {β : Beta} {s : Nat} {z : D} {v : Value} (hv : Rep F h β (.sl true s z []) v) : ∃ a, v = .slice a 0 0 := by
  simp only [Rep] at hv
  rcases hv with ⟨_, a, cap, e, hc⟩ | ⟨b, off, cap, c, e, fr, e', _, _, _, hc, _⟩
  · rw [hc trivial] at e; exact ⟨a, e⟩
  · have := hc trivial
    simp only [List.length_nil] at this e'
    rw [this] at e'; exact ⟨_, e'⟩
theorem tabTwo {s s' : Nat} {z z' : D} {n : Nm} {o : OO} (h : (Tab.of [((0, 1), .arr false s z []), ((1, 1), .arr false s' z' [])]).get n = some o) : (n = (0, 1) ∧ o = .arr false s z []) ∨ (n = (1, 1) ∧ o = .arr false s' z' []) := by
  simp only [Tab.of, Tab.get, Tab.set] at h
  split at h
  · rename_i e; simp only [Option.some.injEq] at h; exact .inl ⟨e.symm, h.symm⟩
  · split at h
    · rename_i e; simp only [Option.some.injEq] at h; exact .inr ⟨e.symm, h.symm⟩
    · simp [Tab.nil] at h
/-- two nil slices of a struct, as own rows that hold nothing -/
theorem pc_ghost2 {P : Program} {f : FuncId} {ds : List D} {s1 s2 : Nat} {z1 z2 : D} {x y q : Value} (h : PC P f ds (.tup [.agg [.sl true s1 z1 [], .lit x, .sl true s2 z2 [], .lit y], .lit q]) []) :
    PCo P f ds Tab.nil (.tup [.agg [.own (0, 1) 1 0 0, .lit x, .own (1, 1) 1 0 0, .lit y], .lit q]) (Tab.of [((0, 1), .arr false 1 (dI 0) []), ((1, 1), .arr false 1 (dI 0) [])]) := by
  refine ⟨h.1, fun w F β γ vs O G hr => (h.2 w F β γ vs O G hr).mono fun e w' => ?_⟩
  rintro ⟨v, F', β', γ', g', he, O', hβ, hv⟩
  have h0 : ∀ k : Nat, β (k, 1) = none := fun k => by
    cases hb : β (k, 1) with
    | none => rfl
    | some x =>
      rcases O.gen _ _ hb with h1 | ⟨_, h1⟩
      · simp at h1
      · simp [Tab.nil, Tab.get] at h1
  refine ⟨v, F', fun nm => if nm = (0, 1) ∨ nm = (1, 1) then some (none, 1, 0) else β' nm, fun nm => if nm = (0, 1) ∨ nm = (1, 1) then fun _ => False else γ' nm, g' + 2, he, ?_, ?_, ?_⟩
  · exact {
      F0F := O'.F0F, Fsrc := O'.Fsrc, Flt := O'.Flt, keep := O'.keep, size := O'.size, os := O'.os, tp := O'.tp, out := O'.out
      gen := fun nm x h => by
        by_cases e : nm = (0, 1) ∨ nm = (1, 1)
        · rcases e with rfl | rfl <;> exact .inl (by show 1 < g' + 2; omega)
        · simp only [if_neg e] at h
          rcases O'.gen nm x h with h1 | ⟨h1, _⟩ <;> exact .inl (by omega)
      own := fun nm o h => by
        rcases tabTwo h with ⟨rfl, rfl⟩ | ⟨rfl, rfl⟩ <;> exact ⟨none, 0, by simp, fun _ => ⟨rfl, rfl⟩, fun b hb => by cases hb⟩
      fps := fun nm o h _ x hx => by
        rcases tabTwo h with ⟨rfl, rfl⟩ | ⟨rfl, rfl⟩ <;> simp [fp] at hx
      dis := fun nm nm' o o' h h' _ _ hne x hx => by
        rcases tabTwo h with ⟨rfl, rfl⟩ | ⟨rfl, rfl⟩ <;> simp [fp] at hx }
  · intro nm x h
    have : ¬ (nm = (0, 1) ∨ nm = (1, 1)) := fun e => by rcases e with e | e <;> (rw [e, h0] at h; cases h)
    simp only [if_neg this]
    exact hβ nm x h
  · simp only [Rep, Reps] at hv ⊢
    obtain ⟨V, rfl, u, U, rfl, ⟨A, rfl, a1, A1, rfl, ha, a2, A2, rfl, rfl, a3, A3, rfl, hc, a4, A4, rfl, rfl, rfl⟩, b1, B1, rfl, rfl, rfl⟩ := hv
    have hs1 : ∃ a, a1 = .slice a 0 0 := by
      rcases ha with ⟨_, a, cap, e, hc⟩ | ⟨b, off, cap, c, e, fr, e', _, _, _, hc, _⟩
      · rw [hc trivial] at e; exact ⟨a, e⟩
      · have := hc trivial
        simp only [List.length_nil] at this e'
        rw [this] at e'; exact ⟨_, e'⟩
    have hs2 : ∃ a, a3 = .slice a 0 0 := by
      rcases hc with ⟨_, a, cap, e, hc⟩ | ⟨b, off, cap, c, e, fr, e', _, _, _, hc, _⟩
      · rw [hc trivial] at e; exact ⟨a, e⟩
      · have := hc trivial
        simp only [List.length_nil] at this e'
        rw [this] at e'; exact ⟨_, e'⟩
    obtain ⟨q1, h1⟩ := hs1
    obtain ⟨q2, h2⟩ := hs2
    exact ⟨_, rfl, _, _, rfl, ⟨_, rfl, _, _, rfl, .inl ⟨q1, trivial, h1⟩, _, _, rfl, rfl, _, _, rfl, .inl ⟨q2, trivial, h2⟩, _, _, rfl, rfl, rfl⟩, _, _, rfl, rfl, rfl⟩
theorem once_pc (l m : List Int) (hpre : l.length ≤ 1073741824 ∧ m.length ≤ 1073741824) : PCo Try.prog 52 [encLI l, encLI m] (Tab.of []) (.own (0, 1) 1 0 (mOnce l m).length) (Tab.of [((0, 1), .arr false 1 (dI 0) (ML dI (mOnceT l m)))]) := c52_pc l m hpre
/-- loop.example/g03007/impl.ascendingOnce -/
noncomputable def c52f : Con := mkCon 52 false (α := (List Int) × (List Int)) (fun x => (fun (l : List Int) (m : List Int) => [encLI l, encLI m]) x.1 x.2) (fun _ => []) (fun x => (fun (l : List Int) (m : List Int) => l.length ≤ 1073741824 ∧ m.length ≤ 1073741824) x.1 x.2) (fun x => (fun (l : List Int) (m : List Int) => (.own (0, 1) 1 0 (mOnce l m).length : D)) x.1 x.2) (fun x => (fun (l : List Int) (m : List Int) => [((0, 1), .arr false 1 (dI 0) (ML dI (mOnce l m)))]) x.1 x.2)
@[simp] theorem c52f_f : c52f.f = 52 := rfl
@[simp] theorem c52f_own : c52f.own = false := rfl
theorem c52f_inj : ∀ u_ v_ : (List Int) × (List Int), ((fun x => (fun (l : List Int) (m : List Int) => [encLI l, encLI m]) x.1 x.2) u_).map nz = ((fun x => (fun (l : List Int) (m : List Int) => [encLI l, encLI m]) x.1 x.2) v_).map nz → u_ = v_ := by
  intro u_ v_ h
  obtain ⟨l, m⟩ := u_
  obtain ⟨l', m'⟩ := v_
  simp [nz_lit, nz1_lit, nz_agg, nz_sl, nz1_sl, encLI] at h
  first | (simp [h]; done) | (obtain ⟨⟩ := h; simp_all; done) | simp_all
@[simp] theorem c52f_fn (l : List Int) (m : List Int) : c52f.fn [.sl false 1 (.lit (.int .i64 0)) (ML dI l), .sl false 1 (.lit (.int .i64 0)) (ML dI m)] [] = some ((fun (l : List Int) (m : List Int) => l.length ≤ 1073741824 ∧ m.length ≤ 1073741824) l m, (fun (l : List Int) (m : List Int) => (.own (0, 1) 1 0 (mOnce l m).length : D)) l m, (fun (l : List Int) (m : List Int) => [((0, 1), .arr false 1 (dI 0) (ML dI (mOnce l m)))]) l m) :=
  mkCon_fn (fun x y h _ => c52f_inj x y h) ((l, m) : (List Int) × (List Int)) (by simp [nz, nz1, ML_nil, encLI]) rfl
@[simp] theorem c52f_fn1 (s_l : Nat) (z_l : D) (m : List Int) : c52f.fn [.sl false s_l z_l [], .sl false 1 (.lit (.int .i64 0)) (ML dI m)] [] = some ((fun (l : List Int) (m : List Int) => l.length ≤ 1073741824 ∧ m.length ≤ 1073741824) [] m, (fun (l : List Int) (m : List Int) => (.own (0, 1) 1 0 (mOnce l m).length : D)) [] m, (fun (l : List Int) (m : List Int) => [((0, 1), .arr false 1 (dI 0) (ML dI (mOnce l m)))]) [] m) :=
  mkCon_fn (fun x y h _ => c52f_inj x y h) (([], m) : (List Int) × (List Int)) (by simp [nz, nz1, ML_nil, encLI]) rfl
@[simp] theorem c52f_fn2 (l : List Int) (s_m : Nat) (z_m : D) : c52f.fn [.sl false 1 (.lit (.int .i64 0)) (ML dI l), .sl false s_m z_m []] [] = some ((fun (l : List Int) (m : List Int) => l.length ≤ 1073741824 ∧ m.length ≤ 1073741824) l [], (fun (l : List Int) (m : List Int) => (.own (0, 1) 1 0 (mOnce l m).length : D)) l [], (fun (l : List Int) (m : List Int) => [((0, 1), .arr false 1 (dI 0) (ML dI (mOnce l m)))]) l []) :=
  mkCon_fn (fun x y h _ => c52f_inj x y h) ((l, []) : (List Int) × (List Int)) (by simp [nz, nz1, ML_nil, encLI]) rfl
@[simp] theorem c52f_fn3 (s_l : Nat) (z_l : D) (s_m : Nat) (z_m : D) : c52f.fn [.sl false s_l z_l [], .sl false s_m z_m []] [] = some ((fun (l : List Int) (m : List Int) => l.length ≤ 1073741824 ∧ m.length ≤ 1073741824) [] [], (fun (l : List Int) (m : List Int) => (.own (0, 1) 1 0 (mOnce l m).length : D)) [] [], (fun (l : List Int) (m : List Int) => [((0, 1), .arr false 1 (dI 0) (ML dI (mOnce l m)))]) [] []) :=
  mkCon_fn (fun x y h _ => c52f_inj x y h) (([], []) : (List Int) × (List Int)) (by simp [nz, nz1, ML_nil, encLI]) rfl
theorem c52f_pc (l : List Int) (m : List Int) (hpre : l.length ≤ 1073741824 ∧ m.length ≤ 1073741824) : PCo Try.prog 52 [encLI l, encLI m] (Tab.of []) (.own (0, 1) 1 0 (mOnce l m).length) (Tab.of [((0, 1), .arr false 1 (dI 0) (ML dI (mOnce l m)))]) := by
  have h := once_pc l m hpre
  rw [mOnceT, ← ML_app] at h
  exact pco_cut h
theorem c52f_ok : c52f.ok Try.prog := mkCon_ok fun ⟨l, m⟩ hpre => c52f_pc l m hpre
theorem foldl_len : ∀ (l a : List Int), (l.foldl putI a).length ≤ a.length + l.length
  | [], a => by simp
  | x :: l, a => by
    have h1 := foldl_len l (putI a x)
    have h2 := putI_len a x
    simp only [List.foldl_cons, List.length_cons]; omega
/-- loop.example/g03007/spec.l9Join -/
noncomputable def c60 : Con := mkCon 60 false (α := (List Int) × (List Int)) (fun x => (fun (a : List Int) (b : List Int) => [encLI a, encLI b]) x.1 x.2) (fun _ => []) (fun x => (fun (a : List Int) (b : List Int) => a.length ≤ 500000000 ∧ b.length ≤ 500000000) x.1 x.2) (fun x => (fun (a : List Int) (b : List Int) => (.own (0, 1) 1 0 (b.foldl putI a).length : D)) x.1 x.2) (fun x => (fun (a : List Int) (b : List Int) => [((0, 1), .arr false 1 (dI 0) (ML dI (b.foldl putI a)))]) x.1 x.2)
@[simp] theorem c60_f : c60.f = 60 := rfl
@[simp] theorem c60_own : c60.own = false := rfl
theorem c60_inj : ∀ u_ v_ : (List Int) × (List Int), ((fun x => (fun (a : List Int) (b : List Int) => [encLI a, encLI b]) x.1 x.2) u_).map nz = ((fun x => (fun (a : List Int) (b : List Int) => [encLI a, encLI b]) x.1 x.2) v_).map nz → u_ = v_ := by
  intro u_ v_ h
  obtain ⟨a, b⟩ := u_
  obtain ⟨a', b'⟩ := v_
  simp [nz_lit, nz1_lit, nz_agg, nz_sl, nz1_sl, encLI] at h
  first | (simp [h]; done) | (obtain ⟨⟩ := h; simp_all; done) | simp_all
@[simp] theorem c60_fn (a : List Int) (b : List Int) : c60.fn [.sl false 1 (.lit (.int .i64 0)) (ML dI a), .sl false 1 (.lit (.int .i64 0)) (ML dI b)] [] = some ((fun (a : List Int) (b : List Int) => a.length ≤ 500000000 ∧ b.length ≤ 500000000) a b, (fun (a : List Int) (b : List Int) => (.own (0, 1) 1 0 (b.foldl putI a).length : D)) a b, (fun (a : List Int) (b : List Int) => [((0, 1), .arr false 1 (dI 0) (ML dI (b.foldl putI a)))]) a b) :=
  mkCon_fn (fun x y h _ => c60_inj x y h) ((a, b) : (List Int) × (List Int)) (by simp [nz, nz1, ML_nil, encLI]) rfl
@[simp] theorem c60_fn1 (s_a : Nat) (z_a : D) (b : List Int) : c60.fn [.sl false s_a z_a [], .sl false 1 (.lit (.int .i64 0)) (ML dI b)] [] = some ((fun (a : List Int) (b : List Int) => a.length ≤ 500000000 ∧ b.length ≤ 500000000) [] b, (fun (a : List Int) (b : List Int) => (.own (0, 1) 1 0 (b.foldl putI a).length : D)) [] b, (fun (a : List Int) (b : List Int) => [((0, 1), .arr false 1 (dI 0) (ML dI (b.foldl putI a)))]) [] b) :=
  mkCon_fn (fun x y h _ => c60_inj x y h) (([], b) : (List Int) × (List Int)) (by simp [nz, nz1, ML_nil, encLI]) rfl
@[simp] theorem c60_fn2 (a : List Int) (s_b : Nat) (z_b : D) : c60.fn [.sl false 1 (.lit (.int .i64 0)) (ML dI a), .sl false s_b z_b []] [] = some ((fun (a : List Int) (b : List Int) => a.length ≤ 500000000 ∧ b.length ≤ 500000000) a [], (fun (a : List Int) (b : List Int) => (.own (0, 1) 1 0 (b.foldl putI a).length : D)) a [], (fun (a : List Int) (b : List Int) => [((0, 1), .arr false 1 (dI 0) (ML dI (b.foldl putI a)))]) a []) :=
  mkCon_fn (fun x y h _ => c60_inj x y h) ((a, []) : (List Int) × (List Int)) (by simp [nz, nz1, ML_nil, encLI]) rfl
@[simp] theorem c60_fn3 (s_a : Nat) (z_a : D) (s_b : Nat) (z_b : D) : c60.fn [.sl false s_a z_a [], .sl false s_b z_b []] [] = some ((fun (a : List Int) (b : List Int) => a.length ≤ 500000000 ∧ b.length ≤ 500000000) [] [], (fun (a : List Int) (b : List Int) => (.own (0, 1) 1 0 (b.foldl putI a).length : D)) [] [], (fun (a : List Int) (b : List Int) => [((0, 1), .arr false 1 (dI 0) (ML dI (b.foldl putI a)))]) [] []) :=
  mkCon_fn (fun x y h _ => c60_inj x y h) (([], []) : (List Int) × (List Int)) (by simp [nz, nz1, ML_nil, encLI]) rfl
theorem c60_pc (a : List Int) (b : List Int) (hpre : a.length ≤ 500000000 ∧ b.length ≤ 500000000) : PCo Try.prog 60 [encLI a, encLI b] (Tab.of []) (.own (0, 1) 1 0 (b.foldl putI a).length) (Tab.of [((0, 1), .arr false 1 (dI 0) (ML dI (b.foldl putI a)))]) := by
  refine pco_of_run [] (E := ⟨[c42], [], []⟩) (m := false) (base := 0) (Env.ok_cons c42_ok Env.ok_nil) G_ok mix 300 6 Try.func60 (by kernel_rfl) rfl (by kernel_rfl) (by kernel_rfl) rfl ?_
  simp [Try.f60]
  obtain ⟨hp1, hp2⟩ := hpre
  refine ⟨by omega, ?_⟩
  refine loop_inv (fun p : Nat => p ≤ b.length) (fun p => [(1, encLI b), (5, .own (0, 1) 1 0 ((b.take p).foldl putI a).length), (6, dI p)]) (fun p => [((0, 1), .arr false 1 (dI 0) (ML dI ((b.take p).foldl putI a)))]) 2 (fun p => b.length - p) 0 400 (by simp) (by simp) (by simp) ?_
  intro p hp
  have hl := foldl_len (b.take p) a
  have hl2 : (b.take p).length ≤ b.length := by simp; omega
  simp
  refine ⟨fun hlt => ?_, fun hge => ?_⟩
  · have hs : (b.take (p + 1)).foldl putI a = putI ((b.take p).foldl putI a) (b[p]?.getD 0) := by rw [take_at (d := 0) hlt]; simp
    have hs2 := hs
    repeat' (first | omega | refine And.intro ?_ ?_ | intro _)
    all_goals (exact Again.mk (p + 1) (by omega) (by simp [hs]) (by first | omega | (simp; omega)))
  · rw [List.take_of_length_le hge]; simp
theorem c60_ok : c60.ok Try.prog := mkCon_ok fun ⟨a, b⟩ hpre => c60_pc a b hpre
theorem ascW_asc {hi : Int} : ∀ {l : List Int} {lo : Int}, ascW hi lo l = true → (∀ x ∈ l, lo ≤ x) ∧ l.Pairwise (· < ·)
  | [], _, _ => ⟨by simp, .nil⟩
  | x :: r, lo, h => by
    simp only [ascW, Bool.and_eq_true] at h
    have h1 := mIn_iff.1 h.1
    have h2 := ascW_asc h.2
    refine ⟨fun y hy => ?_, List.pairwise_cons.2 ⟨fun y hy => by have := h2.1 y hy; omega, h2.2⟩⟩
    rcases List.mem_cons.1 hy with rfl | hy
    · omega
    · have := h2.1 y hy; omega
theorem fold_self {l : List Int} (h : l.Pairwise (· < ·)) : l.foldl putI [] = l := by
  have h1 := foldP l [] List.Pairwise.nil
  exact asc_ext h1.1 h fun w => by rw [h1.2.1 w]; simp
theorem join_once {a b : List Int} (h : a.Pairwise (· < ·)) : b.foldl putI a = mOnce a b := by
  rw [← once_fold, List.foldl_append, fold_self h]
theorem doubt_asc {d : TDoubt} (h : mIsDoubt d = true) : d.Colours.Pairwise (· < ·) ∧ d.Places.Pairwise (· < ·) := by
  simp only [mIsDoubt, Bool.and_eq_true] at h
  exact ⟨(ascW_asc h.1.1.1.1).2, (ascW_asc h.1.2).2⟩
def jDo (a b : TDoubt) : TDoubt := ⟨mOnce a.Colours b.Colours, max a.Size b.Size, mOnce a.Places b.Places, max a.Hours b.Hours⟩
def jOk (a b : TDoubt) : Bool := mIsDoubt a && mIsDoubt b && mIsDoubt (jDo a b)
def jD (a b : TDoubt) : TDoubt := if jOk a b then jDo a b else ⟨[], 0, [], 0⟩
@[simp] def smJ (r : TDoubt) : Prop := r.Colours.length ≤ 500000000 ∧ r.Places.length ≤ 500000000
/-- loop.example/g03007/impl.JoinDoubts -/
noncomputable def c19 : Con := mkCon 19 false (α := TDoubt × TDoubt) (fun x => (fun (a : TDoubt) (b : TDoubt) => [encTDoubt a, encTDoubt b]) x.1 x.2) (fun _ => []) (fun x => (fun (a : TDoubt) (b : TDoubt) => smJ a ∧ smJ b) x.1 x.2) (fun x => (fun (a : TDoubt) (b : TDoubt) => (.tup [.agg [.own (0, 1) 1 0 (jD a b).Colours.length, dI (jD a b).Size, .own (1, 1) 1 0 (jD a b).Places.length, dI (jD a b).Hours], dB (jOk a b)] : D)) x.1 x.2) (fun x => (fun (a : TDoubt) (b : TDoubt) => [((0, 1), .arr false 1 (dI 0) (ML dI (jD a b).Colours)), ((1, 1), .arr false 1 (dI 0) (ML dI (jD a b).Places))]) x.1 x.2)
@[simp] theorem c19_f : c19.f = 19 := rfl
@[simp] theorem c19_own : c19.own = false := rfl
theorem c19_inj : ∀ u_ v_ : TDoubt × TDoubt, ((fun x => (fun (a : TDoubt) (b : TDoubt) => [encTDoubt a, encTDoubt b]) x.1 x.2) u_).map nz = ((fun x => (fun (a : TDoubt) (b : TDoubt) => [encTDoubt a, encTDoubt b]) x.1 x.2) v_).map nz → u_ = v_ := by
  intro u_ v_ h
  obtain ⟨⟨a_Colours, a_Size, a_Places, a_Hours⟩, ⟨b_Colours, b_Size, b_Places, b_Hours⟩⟩ := u_
  obtain ⟨⟨a_Colours', a_Size', a_Places', a_Hours'⟩, ⟨b_Colours', b_Size', b_Places', b_Hours'⟩⟩ := v_
  simp [nz_lit, nz1_lit, nz_agg, nz_sl, nz1_sl, encLI, encTDoubt] at h
  first | (simp [h]; done) | (obtain ⟨⟩ := h; simp_all; done) | simp_all
@[simp] theorem c19_fn (a_Colours : List Int) (a_Size : Int) (a_Places : List Int) (a_Hours : Int) (b_Colours : List Int) (b_Size : Int) (b_Places : List Int) (b_Hours : Int) : c19.fn [.agg [.sl false 1 (.lit (.int .i64 0)) (ML dI a_Colours), .lit (.int .i64 a_Size), .sl false 1 (.lit (.int .i64 0)) (ML dI a_Places), .lit (.int .i64 a_Hours)], .agg [.sl false 1 (.lit (.int .i64 0)) (ML dI b_Colours), .lit (.int .i64 b_Size), .sl false 1 (.lit (.int .i64 0)) (ML dI b_Places), .lit (.int .i64 b_Hours)]] [] = some ((fun (a : TDoubt) (b : TDoubt) => smJ a ∧ smJ b) ⟨a_Colours, a_Size, a_Places, a_Hours⟩ ⟨b_Colours, b_Size, b_Places, b_Hours⟩, (fun (a : TDoubt) (b : TDoubt) => (.tup [.agg [.own (0, 1) 1 0 (jD a b).Colours.length, dI (jD a b).Size, .own (1, 1) 1 0 (jD a b).Places.length, dI (jD a b).Hours], dB (jOk a b)] : D)) ⟨a_Colours, a_Size, a_Places, a_Hours⟩ ⟨b_Colours, b_Size, b_Places, b_Hours⟩, (fun (a : TDoubt) (b : TDoubt) => [((0, 1), .arr false 1 (dI 0) (ML dI (jD a b).Colours)), ((1, 1), .arr false 1 (dI 0) (ML dI (jD a b).Places))]) ⟨a_Colours, a_Size, a_Places, a_Hours⟩ ⟨b_Colours, b_Size, b_Places, b_Hours⟩) :=
  mkCon_fn (fun x y h _ => c19_inj x y h) ((⟨a_Colours, a_Size, a_Places, a_Hours⟩, ⟨b_Colours, b_Size, b_Places, b_Hours⟩) : TDoubt × TDoubt) (by simp [nz, nz1, ML_nil, encLI, encTDoubt]) rfl
theorem c19_pc (a : TDoubt) (b : TDoubt) (hpre : smJ a ∧ smJ b) : PCo Try.prog 19 [encTDoubt a, encTDoubt b] (Tab.of []) (.tup [.agg [.own (0, 1) 1 0 (jD a b).Colours.length, dI (jD a b).Size, .own (1, 1) 1 0 (jD a b).Places.length, dI (jD a b).Hours], dB (jOk a b)]) (Tab.of [((0, 1), .arr false 1 (dI 0) (ML dI (jD a b).Colours)), ((1, 1), .arr false 1 (dI 0) (ML dI (jD a b).Places))]) := by
  obtain ⟨⟨p1, p2⟩, p3, p4⟩ := hpre
  have q1 := mOnce_le a.Colours b.Colours
  have q2 := mOnce_le a.Places b.Places
  have hjc : (jDo a b).Colours = mOnce a.Colours b.Colours := rfl
  have hjp : (jDo a b).Places = mOnce a.Places b.Places := rfl
  have hj : jDo a b = ⟨mOnce a.Colours b.Colours, max a.Size b.Size, mOnce a.Places b.Places, max a.Hours b.Hours⟩ := rfl
  cases hc : jOk a b with
  | true =>
    have hd : jD a b = jDo a b := by rw [jD, if_pos hc]
    rw [hd, hj]
    simp only [jOk, Bool.and_eq_true] at hc
    obtain ⟨⟨hA, hB⟩, hJ⟩ := hc
    rw [hj] at hJ
    have k1 := join_once (b := b.Colours) (doubt_asc hA).1
    have k2 := join_once (b := b.Places) (doubt_asc hA).2
    refine pco_of_run [1003] (tin := []) (E := ⟨[c49, c52f, c54], [], []⟩) (m := false) (base := 0) (Env.ok_cons c49_ok (Env.ok_cons c52f_ok (Env.ok_cons c54_ok Env.ok_nil))) G_ok mix 300 6 Try.func19 (by kernel_rfl) rfl (by kernel_rfl) (by kernel_rfl) rfl ?_
    simp [Try.f19, hA, hB, hJ, k1, k2]
    first | done | omega | trace_state
  | false =>
    have hd : jD a b = ⟨[], 0, [], 0⟩ := by rw [jD, if_neg (by simp [hc])]
    rw [hd]
    refine pc_ghost2 (s1 := 0) (s2 := 0) (z1 := .any) (z2 := .any) (x := .int .i64 0) (y := .int .i64 0) (q := .bool false) ?_
    refine pco_of_run [1003] (tin := []) (E := ⟨[c49, c52f, c54], [], []⟩) (m := false) (base := 0) (Env.ok_cons c49_ok (Env.ok_cons c52f_ok (Env.ok_cons c54_ok Env.ok_nil))) G_ok mix 300 6 Try.func19 (by kernel_rfl) rfl (by kernel_rfl) (by kernel_rfl) rfl ?_
    cases hA : mIsDoubt a with
    | false => simp [Try.f19, hA]; first | done | omega | trace_state
    | true =>
      cases hB : mIsDoubt b with
      | false => simp [Try.f19, hA, hB]; first | done | omega | trace_state
      | true =>
        have hJ : mIsDoubt (jDo a b) = false := by simpa [jOk, hA, hB] using hc
        rw [hj] at hJ
        have k1 := join_once (b := b.Colours) (doubt_asc hA).1
        have k2 := join_once (b := b.Places) (doubt_asc hA).2
        simp [Try.f19, hA, hB, hJ, k1, k2]
        first | done | omega | trace_state
theorem c19_ok : c19.ok Try.prog := mkCon_ok fun ⟨a, b⟩ hpre => c19_pc a b hpre
/-- loop.example/g03007/spec.JoinDoubts -/
noncomputable def c18 : Con := mkCon 18 false (α := TDoubt × TDoubt) (fun x => (fun (a : TDoubt) (b : TDoubt) => [encTDoubt a, encTDoubt b]) x.1 x.2) (fun _ => []) (fun x => (fun (a : TDoubt) (b : TDoubt) => smJ a ∧ smJ b) x.1 x.2) (fun x => (fun (a : TDoubt) (b : TDoubt) => (.tup [.agg [.own (0, 1) 1 0 (jD a b).Colours.length, dI (jD a b).Size, .own (1, 1) 1 0 (jD a b).Places.length, dI (jD a b).Hours], dB (jOk a b)] : D)) x.1 x.2) (fun x => (fun (a : TDoubt) (b : TDoubt) => [((0, 1), .arr false 1 (dI 0) (ML dI (jD a b).Colours)), ((1, 1), .arr false 1 (dI 0) (ML dI (jD a b).Places))]) x.1 x.2)
@[simp] theorem c18_f : c18.f = 18 := rfl
@[simp] theorem c18_own : c18.own = false := rfl
theorem c18_inj : ∀ u_ v_ : TDoubt × TDoubt, ((fun x => (fun (a : TDoubt) (b : TDoubt) => [encTDoubt a, encTDoubt b]) x.1 x.2) u_).map nz = ((fun x => (fun (a : TDoubt) (b : TDoubt) => [encTDoubt a, encTDoubt b]) x.1 x.2) v_).map nz → u_ = v_ := by
  intro u_ v_ h
  obtain ⟨⟨a_Colours, a_Size, a_Places, a_Hours⟩, ⟨b_Colours, b_Size, b_Places, b_Hours⟩⟩ := u_
  obtain ⟨⟨a_Colours', a_Size', a_Places', a_Hours'⟩, ⟨b_Colours', b_Size', b_Places', b_Hours'⟩⟩ := v_
  simp [nz_lit, nz1_lit, nz_agg, nz_sl, nz1_sl, encLI, encTDoubt] at h
  first | (simp [h]; done) | (obtain ⟨⟩ := h; simp_all; done) | simp_all
@[simp] theorem c18_fn (a_Colours : List Int) (a_Size : Int) (a_Places : List Int) (a_Hours : Int) (b_Colours : List Int) (b_Size : Int) (b_Places : List Int) (b_Hours : Int) : c18.fn [.agg [.sl false 1 (.lit (.int .i64 0)) (ML dI a_Colours), .lit (.int .i64 a_Size), .sl false 1 (.lit (.int .i64 0)) (ML dI a_Places), .lit (.int .i64 a_Hours)], .agg [.sl false 1 (.lit (.int .i64 0)) (ML dI b_Colours), .lit (.int .i64 b_Size), .sl false 1 (.lit (.int .i64 0)) (ML dI b_Places), .lit (.int .i64 b_Hours)]] [] = some ((fun (a : TDoubt) (b : TDoubt) => smJ a ∧ smJ b) ⟨a_Colours, a_Size, a_Places, a_Hours⟩ ⟨b_Colours, b_Size, b_Places, b_Hours⟩, (fun (a : TDoubt) (b : TDoubt) => (.tup [.agg [.own (0, 1) 1 0 (jD a b).Colours.length, dI (jD a b).Size, .own (1, 1) 1 0 (jD a b).Places.length, dI (jD a b).Hours], dB (jOk a b)] : D)) ⟨a_Colours, a_Size, a_Places, a_Hours⟩ ⟨b_Colours, b_Size, b_Places, b_Hours⟩, (fun (a : TDoubt) (b : TDoubt) => [((0, 1), .arr false 1 (dI 0) (ML dI (jD a b).Colours)), ((1, 1), .arr false 1 (dI 0) (ML dI (jD a b).Places))]) ⟨a_Colours, a_Size, a_Places, a_Hours⟩ ⟨b_Colours, b_Size, b_Places, b_Hours⟩) :=
  mkCon_fn (fun x y h _ => c18_inj x y h) ((⟨a_Colours, a_Size, a_Places, a_Hours⟩, ⟨b_Colours, b_Size, b_Places, b_Hours⟩) : TDoubt × TDoubt) (by simp [nz, nz1, ML_nil, encLI, encTDoubt]) rfl
theorem c18_pc (a : TDoubt) (b : TDoubt) (hpre : smJ a ∧ smJ b) : PCo Try.prog 18 [encTDoubt a, encTDoubt b] (Tab.of []) (.tup [.agg [.own (0, 1) 1 0 (jD a b).Colours.length, dI (jD a b).Size, .own (1, 1) 1 0 (jD a b).Places.length, dI (jD a b).Hours], dB (jOk a b)]) (Tab.of [((0, 1), .arr false 1 (dI 0) (ML dI (jD a b).Colours)), ((1, 1), .arr false 1 (dI 0) (ML dI (jD a b).Places))]) := by
  obtain ⟨⟨p1, p2⟩, p3, p4⟩ := hpre
  have q1 := mOnce_le a.Colours b.Colours
  have q2 := mOnce_le a.Places b.Places
  have hjc : (jDo a b).Colours = mOnce a.Colours b.Colours := rfl
  have hjp : (jDo a b).Places = mOnce a.Places b.Places := rfl
  have hj : jDo a b = ⟨mOnce a.Colours b.Colours, max a.Size b.Size, mOnce a.Places b.Places, max a.Hours b.Hours⟩ := rfl
  cases hc : jOk a b with
  | true =>
    have hd : jD a b = jDo a b := by rw [jD, if_pos hc]
    rw [hd, hj]
    simp only [jOk, Bool.and_eq_true] at hc
    obtain ⟨⟨hA, hB⟩, hJ⟩ := hc
    rw [hj] at hJ
    have k1 := join_once (b := b.Colours) (doubt_asc hA).1
    have k2 := join_once (b := b.Places) (doubt_asc hA).2
    refine pco_of_run [1003] (tin := []) (E := ⟨[c41, c60, c43], [], []⟩) (m := false) (base := 0) (Env.ok_cons c41_ok (Env.ok_cons c60_ok (Env.ok_cons c43_ok Env.ok_nil))) G_ok mix 300 6 Try.func18 (by kernel_rfl) rfl (by kernel_rfl) (by kernel_rfl) rfl ?_
    simp [Try.f18, hA, hB, hJ, k1, k2]
    first | done | omega | trace_state
  | false =>
    have hd : jD a b = ⟨[], 0, [], 0⟩ := by rw [jD, if_neg (by simp [hc])]
    rw [hd]
    refine pc_ghost2 (s1 := 0) (s2 := 0) (z1 := .any) (z2 := .any) (x := .int .i64 0) (y := .int .i64 0) (q := .bool false) ?_
    refine pco_of_run [1003] (tin := []) (E := ⟨[c41, c60, c43], [], []⟩) (m := false) (base := 0) (Env.ok_cons c41_ok (Env.ok_cons c60_ok (Env.ok_cons c43_ok Env.ok_nil))) G_ok mix 300 6 Try.func18 (by kernel_rfl) rfl (by kernel_rfl) (by kernel_rfl) rfl ?_
    cases hA : mIsDoubt a with
    | false => simp [Try.f18, hA]; first | done | omega | trace_state
    | true =>
      cases hB : mIsDoubt b with
      | false => simp [Try.f18, hA, hB]; first | done | omega | trace_state
      | true =>
        have hJ : mIsDoubt (jDo a b) = false := by simpa [jOk, hA, hB] using hc
        rw [hj] at hJ
        have k1 := join_once (b := b.Colours) (doubt_asc hA).1
        have k2 := join_once (b := b.Places) (doubt_asc hA).2
        simp [Try.f18, hA, hB, hJ, k1, k2]
        first | done | omega | trace_state
theorem c18_ok : c18.ok Try.prog := mkCon_ok fun ⟨a, b⟩ hpre => c18_pc a b hpre

end Go.Proofs.Ytdiajaijdkohlaa
