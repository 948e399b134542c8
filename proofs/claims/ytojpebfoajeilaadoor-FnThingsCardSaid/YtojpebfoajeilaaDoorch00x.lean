/- Contracts of the functions that the laws run. -/
import Derived.Test.YtojpebfoajeilaaDoorch00w
import Derived.Test.YtojpebfoajeilaaDoorch27t
import Derived.Test.YtojpebfoajeilaaDoorEngB
namespace Go.Proofs.YtojpebfoajeilaaDoor
open Go Go.Eng
set_option linter.unusedSimpArgs false
set_option linter.unusedVariables false
set_option maxRecDepth 10000
set_option maxHeartbeats 1000000
/-- loop.example/g03007/laws.big -/
noncomputable def c4 : Con := mkCon 4 false (α := (List Int)) (fun x => (fun (l : List Int) => [encLU l]) x) (fun _ => []) (fun x => (fun (l : List Int) => True) x) (fun x => (fun (l : List Int) => (dB (decide (1048576 < l.length)) : D)) x) (fun x => (fun (l : List Int) => []) x)
@[simp] theorem c4_f : c4.f = 4 := rfl
@[simp] theorem c4_own : c4.own = false := rfl
theorem c4_inj : ∀ u_ v_ : (List Int), ((fun x => (fun (l : List Int) => [encLU l]) x) u_).map nz = ((fun x => (fun (l : List Int) => [encLU l]) x) v_).map nz → u_ = v_ := by
  intro u_ v_ h
  obtain l := u_
  obtain l' := v_
  simp [nz_lit, nz1_lit, nz_agg, nz_sl, nz1_sl, encLU] at h
  first | (simp [h]; done) | (obtain ⟨⟩ := h; simp_all; done) | simp_all
@[simp] theorem c4_fn (l : List Int) : c4.fn [.sl false 1 (.lit (.int .u8 0)) (ML dU l)] [] = some ((fun (l : List Int) => True) l, (fun (l : List Int) => (dB (decide (1048576 < l.length)) : D)) l, (fun (l : List Int) => []) l) :=
  mkCon_fn (fun x y h _ => c4_inj x y h) (l : (List Int)) (by simp [nz, nz1, ML_nil, encLU]) rfl
@[simp] theorem c4_fn1 (s_l : Nat) (z_l : D) : c4.fn [.sl false s_l z_l []] [] = some ((fun (l : List Int) => True) [], (fun (l : List Int) => (dB (decide (1048576 < l.length)) : D)) [], (fun (l : List Int) => []) []) :=
  mkCon_fn (fun x y h _ => c4_inj x y h) ([] : (List Int)) (by simp [nz, nz1, ML_nil, encLU]) rfl
theorem c4_pc (l : List Int) : PCo Tryd.prog 4 [encLU l] (Tab.of []) (dB (decide (1048576 < l.length))) (Tab.of []) := by
  refine pco_of_run [] (E := ⟨[], [], []⟩) (m := false) (base := 0) Env.ok_nil G_ok mix 300 6 Tryd.func4 (by kernel_rfl) rfl (by kernel_rfl) (by kernel_rfl) rfl ?_
  simp [Tryd.f4]
  all_goals first | omega | (rw [Bool.eq_iff_iff]; simp; omega) | grind
theorem c4_ok : c4.ok Tryd.prog := mkCon_ok fun l hpre => c4_pc l
theorem names_ne : ((List.range 8).all fun p => decide (mKind ((p : Int) + 1) ≠ ⟨#[]⟩) && (List.range p).all fun q => decide (mKind ((p : Int) + 1) ≠ mKind ((q : Int) + 1)) && decide (mColour (p : Int) ≠ mColour (q : Int))) = true := by rfl
theorem names_at {p q : Nat} (hp : p < 8) (hq : q < p) : ¬ mKind ((p : Int) + 1) = ⟨#[]⟩ ∧ ¬ mKind ((p : Int) + 1) = mKind ((q : Int) + 1) ∧ ¬ mColour (p : Int) = mColour (q : Int) := by
  have h1 := List.all_eq_true.1 names_ne p (List.mem_range.2 hp)
  simp only [Bool.and_eq_true] at h1
  have h2 := List.all_eq_true.1 h1.2 q (List.mem_range.2 hq)
  simp only [Bool.and_eq_true] at h2
  exact ⟨of_decide_eq_true h1.1, of_decide_eq_true h2.1, of_decide_eq_true h2.2⟩
theorem text_ne {x : TThing} (h : mIsThing x = true) : ¬ mThingText x = ⟨#[]⟩ := by
  intro e
  have h2 : (mThingText x).size = 0 := by rw [e]; rfl
  rw [mThingText, if_pos h] at h2
  simp only [app_size, sp1, sp1_size] at h2
  omega
theorem text_nil {x : TThing} (h : mIsThing x = false) : mThingText x = ⟨#[]⟩ := by simp [mThingText, h]
theorem asc_mono : ∀ {l : List TThing} {p q : Int}, q ≤ p → mAsc p l = true → mAsc q l = true
  | [], _, _, _, _ => rfl
  | x :: r, p, q, h, ha => by
    simp only [mAsc, Bool.and_eq_true, decide_eq_true_eq] at ha ⊢
    exact ⟨⟨ha.1.1, by omega⟩, ha.2⟩
theorem are_tail {l : List TThing} (h : mAreThings l = true) : mAreThings l.tail = true := by
  cases l with
  | nil => exact h
  | cons x r =>
    simp only [mAreThings, mAsc, Bool.and_eq_true, decide_eq_true_eq, List.length_cons, List.tail_cons] at h ⊢
    have h0 := (things_in h.2.1.1).1.1
    have h9 := h.1
    refine And.intro ?_ (asc_mono (q := 0) (by omega) h.2.2)
    exact decide_eq_true (by omega)
/-- loop.example/g03007/laws.FnThings -/
theorem law3 (l : List Int) (wl : wfLU l) : PCo Tryd.prog 3 [encLU l] (Tab.of []) (dB true) (Tab.of []) := by
  refine pco_of_run [4, 16] (E := ⟨[c4, c5, c6, c7, c8, c9, c10, c11, c12, c13], [], []⟩) (m := false) (base := 0) (Env.ok_cons c4_ok (Env.ok_cons c5_ok (Env.ok_cons c6_ok (Env.ok_cons c7_ok (Env.ok_cons c8_ok (Env.ok_cons c9_ok (Env.ok_cons c10_ok (Env.ok_cons c11_ok (Env.ok_cons c12_ok (Env.ok_cons c13_ok Env.ok_nil)))))))))) G_ok mix 400 6 Tryd.func3 (by kernel_rfl) rfl (by kernel_rfl) (by kernel_rfl) rfl ?_
  have hl : l.length ≤ maxLen := wl.1
  by_cases hbig : 1048576 < l.length
  · simp [Tryd.f3, hbig]
  · have hp : l.length ≤ 2097152 := by omega
    obtain ⟨A, B, L, h1, h2, h3, h4⟩ := exDT
    have h1 := h1 l; have h2 := h2 l; have h3 := h3 l; have h4 := h4 l hp
    generalize A l = a at *
    generalize B l = b at *
    generalize L l = L at *
    have hc : decide (b.Kind = a.Kind) = decide (a.Kind = b.Kind) := by simp only [eq_comm]
    have ht : mAreThings L = true → mAreThings L.tail = true := are_tail
    have hq : c13.fn [.sl false 5 yTThing (ML encTThing L).tail] [] = some (L.tail.length ≤ 1099511627776, dB (mAreThings L.tail), []) := by
      have e : (ML encTThing L).tail = ML encTThing L.tail := by cases L <;> rfl
      rw [e]; exact c13_fn L.tail
    cases hx : mIsThing a with
    | true =>
      have hn := text_ne hx
      simp [Tryd.f3, hbig, h1, h2, h3, -c5_fn, -c10_fn, -c11_fn, hx, hn]
      refine ⟨hp, ?_⟩
      refine loop_inv (fun p : Nat => p ≤ 8) (fun p => [(0, encLU l), (2, dB false), (4, dI ((p : Int) + 1))]) (fun _ => []) 1 (fun p => 8 - p) 0 400 (by simp) (by simp) (by simp) ?_
      intro p hp8
      simp [hbig, h1, h2, h3, -c5_fn, -c10_fn, -c11_fn, hx, hn, hq, hc]
      refine ⟨fun hle => ?_, fun hgt => ?_⟩
      · refine loop_inv (fun q : Nat => q ≤ p) (fun q => [(0, encLU l), (2, dB false), (4, dI ((p : Int) + 1)), (5, dI ((q : Int) + 1))]) (fun _ => []) 1 (fun q => p - q) 0 400 (by simp) (by simp) (by simp) ?_
        intro q hqp
        by_cases hqlt : q < p
        · obtain ⟨n1, n2, n3⟩ := names_at (show p < 8 by omega) hqlt
          simp [n1, n2, n3, hqlt]
          refine ⟨⟨by omega, by omega⟩, ⟨by omega, by omega⟩, ?_⟩
          exact Again.mk (q + 1) (by omega) (by first | (simp; done) | (simp; omega)) (by first | omega | (simp; omega))
        · have e : q = p := by omega
          subst e
          simp
          refine ⟨⟨by omega, by omega⟩, ?_⟩
          exact Again.mk (q + 1) (by omega) (by first | (simp; done) | (simp; omega)) (by first | omega | (simp; omega))
      · have e : p = 8 := by omega
        refine ⟨hp, ?_⟩
        refine ⟨⟨by omega, ?_, ?_⟩, ?_⟩
        · intro _ hL
          have := List.length_pos_iff.2 hL
          omega
        · intro _ _; omega
        · cases hm : mAreThings L with
          | true => exact .inr (ht hm)
          | false => exact .inl (.inl rfl)
    | false =>
      have hn := text_nil hx
      simp [Tryd.f3, hbig, h1, h2, h3, -c5_fn, -c10_fn, -c11_fn, hx, hn]
      refine ⟨hp, ?_⟩
      refine loop_inv (fun p : Nat => p ≤ 8) (fun p => [(0, encLU l), (2, dB false), (4, dI ((p : Int) + 1))]) (fun _ => []) 1 (fun p => 8 - p) 0 400 (by simp) (by simp) (by simp) ?_
      intro p hp8
      simp [hbig, h1, h2, h3, -c5_fn, -c10_fn, -c11_fn, hx, hn, hq, hc]
      refine ⟨fun hle => ?_, fun hgt => ?_⟩
      · refine loop_inv (fun q : Nat => q ≤ p) (fun q => [(0, encLU l), (2, dB false), (4, dI ((p : Int) + 1)), (5, dI ((q : Int) + 1))]) (fun _ => []) 1 (fun q => p - q) 0 400 (by simp) (by simp) (by simp) ?_
        intro q hqp
        by_cases hqlt : q < p
        · obtain ⟨n1, n2, n3⟩ := names_at (show p < 8 by omega) hqlt
          simp [n1, n2, n3, hqlt]
          refine ⟨⟨by omega, by omega⟩, ⟨by omega, by omega⟩, ?_⟩
          exact Again.mk (q + 1) (by omega) (by first | (simp; done) | (simp; omega)) (by first | omega | (simp; omega))
        · have e : q = p := by omega
          subst e
          simp
          refine ⟨⟨by omega, by omega⟩, ?_⟩
          exact Again.mk (q + 1) (by omega) (by first | (simp; done) | (simp; omega)) (by first | omega | (simp; omega))
      · have e : p = 8 := by omega
        refine ⟨hp, ?_⟩
        refine ⟨⟨by omega, ?_, ?_⟩, ?_⟩
        · intro _ hL
          have := List.length_pos_iff.2 hL
          omega
        · intro _ _; omega
        · cases hm : mAreThings L with
          | true => exact .inr (ht hm)
          | false => exact .inl (.inl rfl)
theorem law3_pc (D0 : D) (h0 : Sh G 9 22 D0) : PC Tryd.prog 3 [D0] (dB true) [] := by
  obtain ⟨l, rfl, wl⟩ := sh22 (n := 7) h0
  exact law3 l wl

end Go.Proofs.YtojpebfoajeilaaDoor
