/- Contracts of the functions that the laws run. -/
import Derived.Test.Ytnghehfdclhfdaach21m
import Derived.Test.Ytnghehfdclhfdaagen
import Derived.Test.YtnghehfdclhfdaaEngB
namespace Go.Proofs.Ytnghehfdclhfdaa
open Go Go.Eng
set_option linter.unusedSimpArgs false
set_option linter.unusedVariables false
set_option maxRecDepth 10000
set_option maxHeartbeats 1000000
@[simp] def smLL (l : List (List Int)) : Prop := l.length ≤ 1099511627776 ∧ ∀ x ∈ l, x.length ≤ 1099511627776
def szL (x : List Int) (q : Int) : Int := if q - x.length < 0 then -1 else q - x.length
theorem szL_ok (x : List Int) (q : Int) (h : 0 ≤ szL x q) : szL x q ≤ q ∧ (x.length : Int) ≤ q := by
  simp only [szL] at h ⊢; split at h <;> rename_i h2
  · omega
  · rw [if_neg h2]; omega
theorem szL_at (x : List Int) (q : Int) : (if q - (x.length : Int) < 0 then (-1 : Int) else q - x.length) = szL x q := rfl
theorem mem_getL {l : List (List Int)} {p : Nat} (h : p < l.length) : l[p]?.getD [] ∈ l := by rw [List.getElem?_eq_getElem h]; exact List.getElem_mem _
/-- loop.example/g03007/laws.szIntSS -/
noncomputable def c19 : Con := mkCon 19 false (α := (List (List Int)) × Int) (fun x => (fun (l : List (List Int)) (left : Int) => [encLLI l, dI left]) x.1 x.2) (fun _ => []) (fun x => (fun (l : List (List Int)) (left : Int) => l.length ≤ maxLen ∧ (∀ x ∈ l, x.length ≤ maxLen) ∧ 0 ≤ left ∧ left ≤ 1099511627776) x.1 x.2) (fun x => (fun (l : List (List Int)) (left : Int) => (dI (szDeep szL l left) : D)) x.1 x.2) (fun x => (fun (l : List (List Int)) (left : Int) => []) x.1 x.2)
@[simp] theorem c19_f : c19.f = 19 := rfl
@[simp] theorem c19_own : c19.own = false := rfl
theorem c19_inj : ∀ u_ v_ : (List (List Int)) × Int, ((fun x => (fun (l : List (List Int)) (left : Int) => [encLLI l, dI left]) x.1 x.2) u_).map nz = ((fun x => (fun (l : List (List Int)) (left : Int) => [encLLI l, dI left]) x.1 x.2) v_).map nz → u_ = v_ := by
  intro u_ v_ h
  obtain ⟨l, left⟩ := u_
  obtain ⟨l', left'⟩ := v_
  simp [nz_lit, nz1_lit, nz_agg, nz_sl, nz1_sl, encLLI] at h
  first | (simp [h]; done) | (obtain ⟨⟩ := h; simp_all; done) | simp_all
@[simp] theorem c19_fn (l : List (List Int)) (left : Int) : c19.fn [.sl false 1 yLI (ML encLI l), .lit (.int .i64 left)] [] = some ((fun (l : List (List Int)) (left : Int) => l.length ≤ maxLen ∧ (∀ x ∈ l, x.length ≤ maxLen) ∧ 0 ≤ left ∧ left ≤ 1099511627776) l left, (fun (l : List (List Int)) (left : Int) => (dI (szDeep szL l left) : D)) l left, (fun (l : List (List Int)) (left : Int) => []) l left) :=
  mkCon_fn (fun x y h _ => c19_inj x y h) ((l, left) : (List (List Int)) × Int) (by simp [nz, nz1, ML_nil, encLLI]) rfl
@[simp] theorem c19_fn1 (s_l : Nat) (z_l : D) (left : Int) : c19.fn [.sl false s_l z_l [], .lit (.int .i64 left)] [] = some ((fun (l : List (List Int)) (left : Int) => l.length ≤ maxLen ∧ (∀ x ∈ l, x.length ≤ maxLen) ∧ 0 ≤ left ∧ left ≤ 1099511627776) [] left, (fun (l : List (List Int)) (left : Int) => (dI (szDeep szL l left) : D)) [] left, (fun (l : List (List Int)) (left : Int) => []) [] left) :=
  mkCon_fn (fun x y h _ => c19_inj x y h) (([], left) : (List (List Int)) × Int) (by simp [nz, nz1, ML_nil, encLLI]) rfl
theorem c19_pc (l : List (List Int)) (left : Int) (hpre : l.length ≤ maxLen ∧ (∀ x ∈ l, x.length ≤ maxLen) ∧ 0 ≤ left ∧ left ≤ 1099511627776) : PCo Try.prog 19 [encLLI l, dI left] (Tab.of []) (dI (szDeep szL l left)) (Tab.of []) := by
  refine pco_of_run [] (E := ⟨[c51], [], []⟩) (m := false) (base := 0) (Env.ok_cons c51_ok Env.ok_nil) G_ok mix 300 6 Try.func19 (by kernel_rfl) rfl (by kernel_rfl) (by kernel_rfl) rfl ?_
  simp [Try.f19]
  obtain ⟨hp1, hp2, hp3, hp4⟩ := hpre
  simp [maxLen] at hp1
  refine ⟨by omega, fun h => ?_, fun hn => ?_⟩
  · rw [szDeep, if_pos h]
  have hd : szDeep szL l left = szRun szL (left - l.length) l := by rw [szDeep, if_neg (by omega)]
  refine loop_inv (fun p : Nat × Int => p.1 ≤ l.length ∧ 0 ≤ p.2 ∧ p.2 ≤ left ∧ szDeep szL l left = szRun szL p.2 (l.drop p.1)) (fun p => [(0, encLLI l), (1, dI p.2), (5, dI p.1)]) (fun _ => []) 1 (fun p => l.length - p.1) (0, left - l.length) 400 (by simp) (by simp [hd]; omega) (by simp) ?_
  intro ⟨p, q⟩ ⟨hp, hq1, hq2, hi⟩
  simp at hp hq1 hq2 hi ⊢
  simp only [szL_at]
  refine ⟨fun hlt => ?_, fun hge => ?_⟩
  · rw [szRun_at (d := []) hlt] at hi
    have hx := hp2 _ (mem_getL hlt)
    have hle := szL_ok (l[p]?.getD []) q
    refine ⟨⟨hlt, hx, hq1, by omega⟩, fun h => by rw [hi, if_pos h], fun h => ⟨by omega, ?_⟩⟩
    rw [if_neg (by omega)] at hi
    exact Again.mk (p + 1, szL (l[p]?.getD []) q) ⟨by simp; omega, by simp; omega, by have := hle (by omega); simp; omega, by simpa using hi⟩ (by simp [szL]) (by first | omega | (simp; omega))
  · rw [hi, szRun_end hge]
theorem c19_ok : c19.ok Try.prog := mkCon_ok fun ⟨l, left⟩ hpre => c19_pc l left hpre
/-- loop.example/g03007/laws.toIntSS -/
noncomputable def c22 : Con := mkCon 22 false (α := (List (List Int))) (fun x => (fun (l : List (List Int)) => [encLLI l]) x) (fun _ => []) (fun x => (fun (l : List (List Int)) => smLL l) x) (fun x => (fun (l : List (List Int)) => (.own (0, 1) 1 0 l.length : D)) x) (fun x => (fun (l : List (List Int)) => [((0, 1), .arr true 1 yLI (ML (encLI) l))]) x)
@[simp] theorem c22_f : c22.f = 22 := rfl
@[simp] theorem c22_own : c22.own = false := rfl
theorem c22_inj : ∀ u_ v_ : (List (List Int)), ((fun x => (fun (l : List (List Int)) => [encLLI l]) x) u_).map nz = ((fun x => (fun (l : List (List Int)) => [encLLI l]) x) v_).map nz → u_ = v_ := by
  intro u_ v_ h
  obtain l := u_
  obtain l' := v_
  simp [nz_lit, nz1_lit, nz_agg, nz_sl, nz1_sl, encLLI] at h
  first | (simp [h]; done) | (obtain ⟨⟩ := h; simp_all; done) | simp_all
@[simp] theorem c22_fn (l : List (List Int)) : c22.fn [.sl false 1 yLI (ML encLI l)] [] = some ((fun (l : List (List Int)) => smLL l) l, (fun (l : List (List Int)) => (.own (0, 1) 1 0 l.length : D)) l, (fun (l : List (List Int)) => [((0, 1), .arr true 1 yLI (ML (encLI) l))]) l) :=
  mkCon_fn (fun x y h _ => c22_inj x y h) (l : (List (List Int))) (by simp [nz, nz1, ML_nil, encLLI]) rfl
@[simp] theorem c22_fn1 (s_l : Nat) (z_l : D) : c22.fn [.sl false s_l z_l []] [] = some ((fun (l : List (List Int)) => smLL l) [], (fun (l : List (List Int)) => (.own (0, 1) 1 0 l.length : D)) [], (fun (l : List (List Int)) => [((0, 1), .arr true 1 yLI (ML (encLI) l))]) []) :=
  mkCon_fn (fun x y h _ => c22_inj x y h) ([] : (List (List Int))) (by simp [nz, nz1, ML_nil, encLLI]) rfl
theorem c22_pc (l : List (List Int)) (hpre : smLL l) : PCo Try.prog 22 [encLLI l] (Tab.of []) (.own (0, 1) 1 0 l.length) (Tab.of [((0, 1), .arr true 1 yLI (ML (encLI) l))]) := by
  refine pco_of_run [] (E := ⟨[c53], [], []⟩) (m := false) (base := 0) (Env.ok_cons c53_ok Env.ok_nil) G_ok mix 300 6 Try.func22 (by kernel_rfl) rfl (by kernel_rfl) (by kernel_rfl) rfl ?_
  simp [Try.f22]
  obtain ⟨hp1, hp2⟩ := hpre
  refine ⟨by omega, ?_⟩
  refine loop_inv (fun p : Nat => p ≤ l.length) (fun p => [(0, encLLI l), (3, .own (0, 1) 1 0 l.length), (4, dI p)]) (fun p => [((0, 1), .arr true 1 yLI (ML encLI (l.take p) ++ List.replicate (l.length - p) (.sl true 0 .any [])))]) 2 (fun p => l.length - p) 0 400 (by simp <;> exact .inr rfl) (by simp <;> exact .inr rfl) (by simp <;> exact .inr rfl) ?_
  intro p hp
  by_cases hlt : p < l.length
  · have hx := hp2 _ (mem_getL hlt)
    have hg := fun z => fillZ (e := encLI) (z := .sl true 0 .any []) (d := z) hlt
    have hs := fillS (e := encLI) (z := .sl true 0 .any []) (d := []) hlt rfl
    simp at hs
    simp [hg]
    refine ⟨fun _ => ?_, fun h => absurd hlt (by omega)⟩
    repeat' (first | exact hx | omega | refine And.intro ?_ ?_ | intro _)
    refine Again.mk (p + 1) (by omega) ?_ (by first | omega | (simp; omega))
    simp [hs]
  · have : p = l.length := by omega
    subst this; simp
theorem c22_ok : c22.ok Try.prog := mkCon_ok fun l hpre => c22_pc l hpre
/-- loop.example/g03007/laws.eqIntSS -/
noncomputable def c25 : Con := mkCon 25 false (α := (List (List Int)) × (List (List Int))) (fun x => (fun (a : List (List Int)) (b : List (List Int)) => [encLLI a, encLLI b]) x.1 x.2) (fun _ => []) (fun x => (fun (a : List (List Int)) (b : List (List Int)) => smLL a ∧ smLL b) x.1 x.2) (fun x => (fun (a : List (List Int)) (b : List (List Int)) => (dB (decide (a = b)) : D)) x.1 x.2) (fun x => (fun (a : List (List Int)) (b : List (List Int)) => []) x.1 x.2)
@[simp] theorem c25_f : c25.f = 25 := rfl
@[simp] theorem c25_own : c25.own = false := rfl
theorem c25_inj : ∀ u_ v_ : (List (List Int)) × (List (List Int)), ((fun x => (fun (a : List (List Int)) (b : List (List Int)) => [encLLI a, encLLI b]) x.1 x.2) u_).map nz = ((fun x => (fun (a : List (List Int)) (b : List (List Int)) => [encLLI a, encLLI b]) x.1 x.2) v_).map nz → u_ = v_ := by
  intro u_ v_ h
  obtain ⟨a, b⟩ := u_
  obtain ⟨a', b'⟩ := v_
  simp [nz_lit, nz1_lit, nz_agg, nz_sl, nz1_sl, encLLI] at h
  first | (simp [h]; done) | (obtain ⟨⟩ := h; simp_all; done) | simp_all
@[simp] theorem c25_fn (a : List (List Int)) (b : List (List Int)) : c25.fn [.sl false 1 yLI (ML encLI a), .sl false 1 yLI (ML encLI b)] [] = some ((fun (a : List (List Int)) (b : List (List Int)) => smLL a ∧ smLL b) a b, (fun (a : List (List Int)) (b : List (List Int)) => (dB (decide (a = b)) : D)) a b, (fun (a : List (List Int)) (b : List (List Int)) => []) a b) :=
  mkCon_fn (fun x y h _ => c25_inj x y h) ((a, b) : (List (List Int)) × (List (List Int))) (by simp [nz, nz1, ML_nil, encLLI]) rfl
@[simp] theorem c25_fn1 (s_a : Nat) (z_a : D) (b : List (List Int)) : c25.fn [.sl false s_a z_a [], .sl false 1 yLI (ML encLI b)] [] = some ((fun (a : List (List Int)) (b : List (List Int)) => smLL a ∧ smLL b) [] b, (fun (a : List (List Int)) (b : List (List Int)) => (dB (decide (a = b)) : D)) [] b, (fun (a : List (List Int)) (b : List (List Int)) => []) [] b) :=
  mkCon_fn (fun x y h _ => c25_inj x y h) (([], b) : (List (List Int)) × (List (List Int))) (by simp [nz, nz1, ML_nil, encLLI]) rfl
@[simp] theorem c25_fn2 (a : List (List Int)) (s_b : Nat) (z_b : D) : c25.fn [.sl false 1 yLI (ML encLI a), .sl false s_b z_b []] [] = some ((fun (a : List (List Int)) (b : List (List Int)) => smLL a ∧ smLL b) a [], (fun (a : List (List Int)) (b : List (List Int)) => (dB (decide (a = b)) : D)) a [], (fun (a : List (List Int)) (b : List (List Int)) => []) a []) :=
  mkCon_fn (fun x y h _ => c25_inj x y h) ((a, []) : (List (List Int)) × (List (List Int))) (by simp [nz, nz1, ML_nil, encLLI]) rfl
@[simp] theorem c25_fn3 (s_a : Nat) (z_a : D) (s_b : Nat) (z_b : D) : c25.fn [.sl false s_a z_a [], .sl false s_b z_b []] [] = some ((fun (a : List (List Int)) (b : List (List Int)) => smLL a ∧ smLL b) [] [], (fun (a : List (List Int)) (b : List (List Int)) => (dB (decide (a = b)) : D)) [] [], (fun (a : List (List Int)) (b : List (List Int)) => []) [] []) :=
  mkCon_fn (fun x y h _ => c25_inj x y h) (([], []) : (List (List Int)) × (List (List Int))) (by simp [nz, nz1, ML_nil, encLLI]) rfl
theorem c25_pc (a : List (List Int)) (b : List (List Int)) (hpre : smLL a ∧ smLL b) : PCo Try.prog 25 [encLLI a, encLLI b] (Tab.of []) (dB (decide (a = b))) (Tab.of []) := by
  refine pco_of_run [] (E := ⟨[c13], [], []⟩) (m := false) (base := 0) (Env.ok_cons c13_ok Env.ok_nil) G_ok mix 300 6 Try.func25 (by kernel_rfl) rfl (by kernel_rfl) (by kernel_rfl) rfl ?_
  simp [Try.f25]
  obtain ⟨⟨pre1, pre3⟩, pre2, pre4⟩ := hpre
  refine ⟨fun h => ?_, fun h => by intro e; subst e; exact absurd rfl h⟩
  refine loop_inv (fun p : Nat => p ≤ a.length ∧ a.take p = b.take p) (fun p => [(0, encLLI a), (1, encLLI b), (5, dI p)]) (fun _ => []) 1 (fun p => a.length - p) 0 100 (by simp) (by simp) (by simp) ?_
  intro p ⟨hp, hi⟩
  simp
  refine ⟨fun hlt => ?_, fun hge => take_eq_full hi (by omega) (by omega)⟩
  have ha := pre3 _ (mem_getL hlt)
  have hb := pre4 _ (mem_getL (show p < b.length by omega))
  refine ⟨⟨hlt, by omega, ha, hb⟩, fun h2 => ⟨by omega, Again.mk (p + 1) ⟨by omega, take_eq_step (d := []) hi (by omega) (by omega) h2⟩ (by simp) (by first | omega | (simp; omega))⟩, fun h2 => by intro e; subst e; exact absurd rfl h2⟩
theorem c25_ok : c25.ok Try.prog := mkCon_ok fun ⟨a, b⟩ hpre => c25_pc a b hpre
def totL : List (List Int) → Int
  | [] => 0
  | x :: t => x.length + totL t
theorem totL_nn : ∀ (l : List (List Int)), 0 ≤ totL l
  | [] => by simp [totL]
  | r :: t => by have := totL_nn t; simp only [totL]; omega
theorem totL_at {l : List (List Int)} {p : Nat} (h : p < l.length) : totL (l.drop p) = (l[p]?.getD []).length + totL (l.drop (p + 1)) := by
  rw [drop_at (d := []) h, totL]
theorem totL_end {l : List (List Int)} {p : Nat} (h : l.length ≤ p) : totL (l.drop p) = 0 := by
  rw [List.drop_eq_nil_of_le h, totL]
theorem totL_run : ∀ (l : List (List Int)) (q : Int), 0 ≤ q → 0 ≤ szRun szL q l → totL l ≤ q
  | [], q, hq, _ => by simp [totL, hq]
  | r :: t, q, hq, h => by
    simp only [szRun] at h
    split at h
    · omega
    · rename_i hn
      have h1 := totL_run t (szL r q) (by omega) h
      have h2 : szL r q = q - r.length := by
        simp only [szL] at hn ⊢
        split at hn
        · omega
        · rename_i h3; rw [if_neg h3]
      simp only [totL]; omega
theorem totL_sz {l : List (List Int)} {left : Int} (h0 : l.length ≤ left) (h : 0 ≤ szDeep szL l left) : totL l ≤ left := by
  rw [szDeep, if_neg (by omega)] at h
  have := totL_run l _ (by omega) h
  omega
/-- loop.example/g03007/laws.markIntSS -/
noncomputable def c27 : Con := mkCon 27 true (α := (List (List Int)) × Int) (fun x => (fun (l : List (List Int)) (k : Int) => ([.own (0, 0) 1 0 l.length, dI k] : List D)) x.1 x.2) (fun x => (fun (l : List (List Int)) (k : Int) => ([((0, 0), .arr true 1 yLI (ML (encLI) l))] : List (Nm × OO))) x.1 x.2) (fun x => (fun (l : List (List Int)) (k : Int) => smLL l ∧ 0 ≤ k ∧ k + totL l ≤ 1099511627776) x.1 x.2) (fun x => (fun (l : List (List Int)) (k : Int) => (dI (k + totL l) : D)) x.1 x.2) (fun x => (fun (l : List (List Int)) (k : Int) => ([] : List (Nm × OO))) x.1 x.2)
@[simp] theorem c27_f : c27.f = 27 := rfl
@[simp] theorem c27_own : c27.own = true := rfl
theorem c27_inj : ∀ u_ v_ : (List (List Int)) × Int, ((fun x => (fun (l : List (List Int)) (k : Int) => ([.own (0, 0) 1 0 l.length, dI k] : List D)) x.1 x.2) u_).map nz = ((fun x => (fun (l : List (List Int)) (k : Int) => ([.own (0, 0) 1 0 l.length, dI k] : List D)) x.1 x.2) v_).map nz → (fun x => (fun (l : List (List Int)) (k : Int) => ([((0, 0), .arr true 1 yLI (ML (encLI) l))] : List (Nm × OO))) x.1 x.2) u_ = (fun x => (fun (l : List (List Int)) (k : Int) => ([((0, 0), .arr true 1 yLI (ML (encLI) l))] : List (Nm × OO))) x.1 x.2) v_ → u_ = v_ := by
  intro u_ v_ h h2_
  obtain ⟨l, k⟩ := u_
  obtain ⟨l', k'⟩ := v_
  simp [nz_lit, nz1_lit, nz_agg, nz_sl, nz1_sl, nz_sx, nz_el, nz1_el, nz_own, nz1_own, nz_ptr, nz_fn, nz_iface] at h h2_
  first | (simp [h, h2_]; done) | (obtain ⟨h3_, h4_⟩ := List.append_inj h2_ h.1; simp_all; done) | simp_all | grind
@[simp] theorem c27_fn (l : List (List Int)) (k : Int) : c27.fn ([.own (0, 0) 1 0 l.length, dI k]) ([((0, 0), .arr true 1 yLI (ML (encLI) l))]) = some (smLL l ∧ 0 ≤ k ∧ k + totL l ≤ 1099511627776, dI (k + totL l), []) :=
  mkCon_fn c27_inj ((l, k) : (List (List Int)) × Int) rfl rfl
theorem c27_pc (l : List (List Int)) (k : Int) (hpre : smLL l ∧ 0 ≤ k ∧ k + totL l ≤ 1099511627776) : PCo Try.prog 27 ([.own (0, 0) 1 0 l.length, dI k]) (Tab.of ([((0, 0), .arr true 1 yLI (ML (encLI) l))])) (dI (k + totL l)) (Tab.of ([])) := by
  refine pco_of_run [] (E := ⟨[c16], [], []⟩) (m := false) (base := 0) (Env.ok_cons c16_ok Env.ok_nil) G_ok mix 300 6 Try.func27 (by kernel_rfl) rfl (by kernel_rfl) (by kernel_rfl) rfl ?_
  simp [Try.f27]
  obtain ⟨⟨hp1, hp2⟩, hp3, hp4⟩ := hpre
  refine loop_inv (fun s : Nat × Int × List D => s.1 ≤ l.length ∧ 0 ≤ s.2.1 ∧ s.2.1 + totL (l.drop s.1) = k + totL l ∧ s.2.2.length = l.length ∧ ∀ j, s.1 ≤ j → j < l.length → s.2.2[j]? = some (encLI (l[j]?.getD []))) (fun s => [(0, .own (0, 0) 1 0 l.length), (1, dI s.2.1), (5, dI s.1)]) (fun s => [((0, 0), .arr true 1 yLI s.2.2)]) 1 (fun s => l.length - s.1) (0, k, ML encLI l) 400 (by simp) ⟨by simp, hp3, by simp, by simp, fun j _ h => by simp [ML, h]⟩ (by simp) ?_
  intro ⟨p, q, xs⟩ ⟨hp, hq, ht, hl, hx⟩
  simp only at hp hq ht hl hx
  by_cases hlt : p < l.length
  · have hm := hp2 _ (mem_getL hlt)
    have hxp := hx p (Nat.le_refl p) hlt
    have hn := totL_nn (l.drop (p + 1))
    rw [totL_at hlt] at ht
    generalize hr : l[p]?.getD [] = r at *
    have hg : ∀ z, xs[p]?.getD z = encLI r := fun z => by rw [hxp]; rfl
    have hs : ∀ A, (xs.set p A)[p]? = some A := fun A => by simp [hl, hlt]
    have hpl : p < xs.length := by omega
    simp [hg, hs]
    refine ⟨fun _ => ?_, fun h => absurd hlt (by omega)⟩
    repeat' (first | omega | refine And.intro ?_ ?_ | intro _)
    refine Again.mk (p + 1, q + r.length, xs.set p .any) ⟨by simp; omega, by simp; omega, by simp; omega, by simp [hl], fun j hj hj2 => ?_⟩ ?_ (by simp; omega)
    · have hne : p ≠ j := by simp at hj; omega
      simp only [List.getElem?_set_ne hne]
      exact hx j (by simp at hj; omega) hj2
    · simp
  · rw [totL_end (by omega)] at ht
    simp
    exact ⟨fun h => absurd h hlt, fun _ => by omega⟩
theorem c27_ok : c27.ok Try.prog := mkCon_ok fun ⟨l, k⟩ hpre => c27_pc l k hpre

end Go.Proofs.Ytnghehfdclhfdaa
