/- Contracts of the functions that the laws run. -/
import Derived.Test.Ytnghehfdclhfdaach22s
import Derived.Test.Ytnghehfdclhfdaagen
import Derived.Test.YtnghehfdclhfdaaEngB
namespace Go.Proofs.Ytnghehfdclhfdaa
open Go Go.Eng
set_option linter.unusedSimpArgs false
set_option linter.unusedVariables false
set_option maxRecDepth 10000
set_option maxHeartbeats 1000000
theorem szP_le (r : TParcel) (q : Int) (h : 0 ≤ szP r q) : szP r q ≤ q := (szP_len h).2
/-- loop.example/g03007/laws.szParcelS -/
noncomputable def c29 : Con := mkCon 29 false (α := (List TParcel) × Int) (fun x => (fun (l : List TParcel) (left : Int) => [encLTParcel l, dI left]) x.1 x.2) (fun _ => []) (fun x => (fun (l : List TParcel) (left : Int) => l.length ≤ maxLen ∧ (∀ x ∈ l, smQ x) ∧ 0 ≤ left ∧ left ≤ 1099511627776) x.1 x.2) (fun x => (fun (l : List TParcel) (left : Int) => (dI (szDeep szP l left) : D)) x.1 x.2) (fun x => (fun (l : List TParcel) (left : Int) => []) x.1 x.2)
@[simp] theorem c29_f : c29.f = 29 := rfl
@[simp] theorem c29_own : c29.own = false := rfl
theorem c29_inj : ∀ u_ v_ : (List TParcel) × Int, ((fun x => (fun (l : List TParcel) (left : Int) => [encLTParcel l, dI left]) x.1 x.2) u_).map nz = ((fun x => (fun (l : List TParcel) (left : Int) => [encLTParcel l, dI left]) x.1 x.2) v_).map nz → u_ = v_ := by
  intro u_ v_ h
  obtain ⟨l, left⟩ := u_
  obtain ⟨l', left'⟩ := v_
  simp [nz_lit, nz1_lit, nz_agg, nz_sl, nz1_sl, encLTParcel] at h
  first | (simp [h]; done) | (obtain ⟨⟩ := h; simp_all; done) | simp_all
@[simp] theorem c29_fn (l : List TParcel) (left : Int) : c29.fn [.sl false 4 yTParcel (ML encTParcel l), .lit (.int .i64 left)] [] = some ((fun (l : List TParcel) (left : Int) => l.length ≤ maxLen ∧ (∀ x ∈ l, smQ x) ∧ 0 ≤ left ∧ left ≤ 1099511627776) l left, (fun (l : List TParcel) (left : Int) => (dI (szDeep szP l left) : D)) l left, (fun (l : List TParcel) (left : Int) => []) l left) :=
  mkCon_fn (fun x y h _ => c29_inj x y h) ((l, left) : (List TParcel) × Int) (by simp [nz, nz1, ML_nil, encLTParcel]) rfl
@[simp] theorem c29_fn1 (s_l : Nat) (z_l : D) (left : Int) : c29.fn [.sl false s_l z_l [], .lit (.int .i64 left)] [] = some ((fun (l : List TParcel) (left : Int) => l.length ≤ maxLen ∧ (∀ x ∈ l, smQ x) ∧ 0 ≤ left ∧ left ≤ 1099511627776) [] left, (fun (l : List TParcel) (left : Int) => (dI (szDeep szP l left) : D)) [] left, (fun (l : List TParcel) (left : Int) => []) [] left) :=
  mkCon_fn (fun x y h _ => c29_inj x y h) (([], left) : (List TParcel) × Int) (by simp [nz, nz1, ML_nil, encLTParcel]) rfl
theorem c29_pc (l : List TParcel) (left : Int) (hpre : l.length ≤ maxLen ∧ (∀ x ∈ l, smQ x) ∧ 0 ≤ left ∧ left ≤ 1099511627776) : PCo Try.prog 29 [encLTParcel l, dI left] (Tab.of []) (dI (szDeep szP l left)) (Tab.of []) := by
  refine pco_of_run [] (E := ⟨[c58], [], []⟩) (m := false) (base := 0) (Env.ok_cons c58_ok Env.ok_nil) G_ok mix 300 6 Try.func29 (by kernel_rfl) rfl (by kernel_rfl) (by kernel_rfl) rfl ?_
  simp [Try.f29]
  obtain ⟨hp1, hp2, hp3, hp4⟩ := hpre
  simp [maxLen] at hp1
  refine ⟨by omega, fun h => ?_, fun hn => ?_⟩
  · rw [szDeep, if_pos h]
  have hd : szDeep szP l left = szRun szP (left - l.length) l := by rw [szDeep, if_neg (by omega)]
  refine loop_inv (fun p : Nat × Int => p.1 ≤ l.length ∧ 0 ≤ p.2 ∧ p.2 ≤ left ∧ szDeep szP l left = szRun szP p.2 (l.drop p.1)) (fun p => [(0, encLTParcel l), (1, dI p.2), (5, dI p.1)]) (fun _ => []) 1 (fun p => l.length - p.1) (0, left - l.length) 400 (by simp) (by simp [hd]; omega) (by simp) ?_
  intro ⟨p, q⟩ ⟨hp, hq1, hq2, hi⟩
  simp at hp hq1 hq2 hi ⊢
  refine ⟨fun hlt => ?_, fun hge => ?_⟩
  · rw [szRun_at (d := default) hlt] at hi
    have hx := hp2 _ (getD_mem (d := default) hlt)
    simp at hx
    have hle := szP_le (l[p]?.getD default) q
    refine ⟨⟨hlt, hx, hq1, by omega⟩, fun h => by rw [hi, if_pos h], fun h => ⟨by omega, ?_⟩⟩
    rw [if_neg (by omega)] at hi
    exact Again.mk (p + 1, szP (l[p]?.getD default) q) ⟨by simp; omega, by simp; omega, by have := hle (by omega); simp; omega, by simpa using hi⟩ (by simp) (by first | omega | (simp; omega))
  · rw [hi, szRun_end hge]
theorem c29_ok : c29.ok Try.prog := mkCon_ok fun ⟨l, left⟩ hpre => c29_pc l left hpre
/-- loop.example/g03007/laws.toParcelS -/
noncomputable def c32 : Con := mkCon 32 false (α := (List TParcel)) (fun x => (fun (l : List TParcel) => [encLTParcel l]) x) (fun _ => []) (fun x => (fun (l : List TParcel) => l.length ≤ 1099511627776 ∧ ∀ x ∈ l, smP x) x) (fun x => (fun (l : List TParcel) => (encLTParcel l : D)) x) (fun x => (fun (l : List TParcel) => []) x)
@[simp] theorem c32_f : c32.f = 32 := rfl
@[simp] theorem c32_own : c32.own = false := rfl
theorem c32_inj : ∀ u_ v_ : (List TParcel), ((fun x => (fun (l : List TParcel) => [encLTParcel l]) x) u_).map nz = ((fun x => (fun (l : List TParcel) => [encLTParcel l]) x) v_).map nz → u_ = v_ := by
  intro u_ v_ h
  obtain l := u_
  obtain l' := v_
  simp [nz_lit, nz1_lit, nz_agg, nz_sl, nz1_sl, encLTParcel] at h
  first | (simp [h]; done) | (obtain ⟨⟩ := h; simp_all; done) | simp_all
@[simp] theorem c32_fn (l : List TParcel) : c32.fn [.sl false 4 yTParcel (ML encTParcel l)] [] = some ((fun (l : List TParcel) => l.length ≤ 1099511627776 ∧ ∀ x ∈ l, smP x) l, (fun (l : List TParcel) => (encLTParcel l : D)) l, (fun (l : List TParcel) => []) l) :=
  mkCon_fn (fun x y h _ => c32_inj x y h) (l : (List TParcel)) (by simp [nz, nz1, ML_nil, encLTParcel]) rfl
@[simp] theorem c32_fn1 (s_l : Nat) (z_l : D) : c32.fn [.sl false s_l z_l []] [] = some ((fun (l : List TParcel) => l.length ≤ 1099511627776 ∧ ∀ x ∈ l, smP x) [], (fun (l : List TParcel) => (encLTParcel l : D)) [], (fun (l : List TParcel) => []) []) :=
  mkCon_fn (fun x y h _ => c32_inj x y h) ([] : (List TParcel)) (by simp [nz, nz1, ML_nil, encLTParcel]) rfl
theorem c32_pc (l : List TParcel) (hpre : l.length ≤ 1099511627776 ∧ ∀ x ∈ l, smP x) : PCo Try.prog 32 [encLTParcel l] (Tab.of []) (encLTParcel l) (Tab.of []) := by
  refine pco_of_run [] (E := ⟨[c61], [], []⟩) (m := false) (base := 0) (Env.ok_cons c61_ok Env.ok_nil) G_ok mix 300 6 Try.func32 (by kernel_rfl) rfl (by kernel_rfl) (by kernel_rfl) rfl ?_
  simp [Try.f32]
  obtain ⟨hp1, hp2⟩ := hpre
  refine ⟨by omega, ?_⟩
  refine loop_inv (fun p : Nat => p ≤ l.length) (fun p => [(0, encLTParcel l), (3, .own (0, 1) 4 0 l.length), (4, dI p)]) (fun p => [((0, 1), .arr false 4 (.agg [dI 0, dI 0, .sl true 0 .any [], dI 0]) (ML encTParcel (l.take p) ++ List.replicate (l.length - p) (.agg [dI 0, dI 0, .sl true 0 .any [], dI 0])))]) 2 (fun p => l.length - p) 0 400 (by simp) (by simp) (by simp) ?_
  intro p hp
  by_cases hlt : p < l.length
  · have hx := hp2 _ (getD_mem (d := default) hlt)
    simp at hx
    have hg := fillZ (e := encTParcel) (z := (.agg [dI 0, dI 0, .sl true 0 .any [], dI 0])) (d := (.agg [dI 0, dI 0, .sl true 0 .any [], dI 0])) hlt
    have hs := fillS (e := encTParcel) (z := (.agg [dI 0, dI 0, .sl true 0 .any [], dI 0])) (d := default) hlt rfl
    simp at hs
    simp [hg]
    refine ⟨fun _ => ?_, fun h => absurd hlt (by omega)⟩
    repeat' (first | exact hx | omega | refine And.intro ?_ ?_ | intro _)
    refine Again.mk (p + 1) (by omega) ?_ (by first | omega | (simp; omega))
    simp [hs]
  · have : p = l.length := by omega
    subst this; simp
theorem c32_ok : c32.ok Try.prog := mkCon_ok fun l hpre => c32_pc l hpre
/-- loop.example/g03007/laws.eqParcelS -/
noncomputable def c35 : Con := mkCon 35 false (α := (List TParcel) × (List TParcel)) (fun x => (fun (a : List TParcel) (b : List TParcel) => [encLTParcel a, encLTParcel b]) x.1 x.2) (fun _ => []) (fun x => (fun (a : List TParcel) (b : List TParcel) => a.length ≤ 1099511627776 ∧ b.length ≤ 1099511627776 ∧ (∀ x ∈ a, smP x) ∧ ∀ x ∈ b, smP x) x.1 x.2) (fun x => (fun (a : List TParcel) (b : List TParcel) => (dB (decide (a = b)) : D)) x.1 x.2) (fun x => (fun (a : List TParcel) (b : List TParcel) => []) x.1 x.2)
@[simp] theorem c35_f : c35.f = 35 := rfl
@[simp] theorem c35_own : c35.own = false := rfl
theorem c35_inj : ∀ u_ v_ : (List TParcel) × (List TParcel), ((fun x => (fun (a : List TParcel) (b : List TParcel) => [encLTParcel a, encLTParcel b]) x.1 x.2) u_).map nz = ((fun x => (fun (a : List TParcel) (b : List TParcel) => [encLTParcel a, encLTParcel b]) x.1 x.2) v_).map nz → u_ = v_ := by
  intro u_ v_ h
  obtain ⟨a, b⟩ := u_
  obtain ⟨a', b'⟩ := v_
  simp [nz_lit, nz1_lit, nz_agg, nz_sl, nz1_sl, encLTParcel] at h
  first | (simp [h]; done) | (obtain ⟨⟩ := h; simp_all; done) | simp_all
@[simp] theorem c35_fn (a : List TParcel) (b : List TParcel) : c35.fn [.sl false 4 yTParcel (ML encTParcel a), .sl false 4 yTParcel (ML encTParcel b)] [] = some ((fun (a : List TParcel) (b : List TParcel) => a.length ≤ 1099511627776 ∧ b.length ≤ 1099511627776 ∧ (∀ x ∈ a, smP x) ∧ ∀ x ∈ b, smP x) a b, (fun (a : List TParcel) (b : List TParcel) => (dB (decide (a = b)) : D)) a b, (fun (a : List TParcel) (b : List TParcel) => []) a b) :=
  mkCon_fn (fun x y h _ => c35_inj x y h) ((a, b) : (List TParcel) × (List TParcel)) (by simp [nz, nz1, ML_nil, encLTParcel]) rfl
@[simp] theorem c35_fn1 (s_a : Nat) (z_a : D) (b : List TParcel) : c35.fn [.sl false s_a z_a [], .sl false 4 yTParcel (ML encTParcel b)] [] = some ((fun (a : List TParcel) (b : List TParcel) => a.length ≤ 1099511627776 ∧ b.length ≤ 1099511627776 ∧ (∀ x ∈ a, smP x) ∧ ∀ x ∈ b, smP x) [] b, (fun (a : List TParcel) (b : List TParcel) => (dB (decide (a = b)) : D)) [] b, (fun (a : List TParcel) (b : List TParcel) => []) [] b) :=
  mkCon_fn (fun x y h _ => c35_inj x y h) (([], b) : (List TParcel) × (List TParcel)) (by simp [nz, nz1, ML_nil, encLTParcel]) rfl
@[simp] theorem c35_fn2 (a : List TParcel) (s_b : Nat) (z_b : D) : c35.fn [.sl false 4 yTParcel (ML encTParcel a), .sl false s_b z_b []] [] = some ((fun (a : List TParcel) (b : List TParcel) => a.length ≤ 1099511627776 ∧ b.length ≤ 1099511627776 ∧ (∀ x ∈ a, smP x) ∧ ∀ x ∈ b, smP x) a [], (fun (a : List TParcel) (b : List TParcel) => (dB (decide (a = b)) : D)) a [], (fun (a : List TParcel) (b : List TParcel) => []) a []) :=
  mkCon_fn (fun x y h _ => c35_inj x y h) ((a, []) : (List TParcel) × (List TParcel)) (by simp [nz, nz1, ML_nil, encLTParcel]) rfl
@[simp] theorem c35_fn3 (s_a : Nat) (z_a : D) (s_b : Nat) (z_b : D) : c35.fn [.sl false s_a z_a [], .sl false s_b z_b []] [] = some ((fun (a : List TParcel) (b : List TParcel) => a.length ≤ 1099511627776 ∧ b.length ≤ 1099511627776 ∧ (∀ x ∈ a, smP x) ∧ ∀ x ∈ b, smP x) [] [], (fun (a : List TParcel) (b : List TParcel) => (dB (decide (a = b)) : D)) [] [], (fun (a : List TParcel) (b : List TParcel) => []) [] []) :=
  mkCon_fn (fun x y h _ => c35_inj x y h) (([], []) : (List TParcel) × (List TParcel)) (by simp [nz, nz1, ML_nil, encLTParcel]) rfl
theorem c35_pc (a : List TParcel) (b : List TParcel) (hpre : a.length ≤ 1099511627776 ∧ b.length ≤ 1099511627776 ∧ (∀ x ∈ a, smP x) ∧ ∀ x ∈ b, smP x) : PCo Try.prog 35 [encLTParcel a, encLTParcel b] (Tab.of []) (dB (decide (a = b))) (Tab.of []) := by
  refine pco_of_run [] (E := ⟨[c65], [], []⟩) (m := false) (base := 0) (Env.ok_cons c65_ok Env.ok_nil) G_ok mix 300 6 Try.func35 (by kernel_rfl) rfl (by kernel_rfl) (by kernel_rfl) rfl ?_
  simp [Try.f35]
  obtain ⟨pre1, pre2, pre3, pre4⟩ := hpre
  refine ⟨fun h => ?_, fun h => by intro e; subst e; exact absurd rfl h⟩
  refine loop_inv (fun p : Nat => p ≤ a.length ∧ a.take p = b.take p) (fun p => [(0, encLTParcel a), (1, encLTParcel b), (5, dI p)]) (fun _ => []) 1 (fun p => a.length - p) 0 100 (by simp) (by simp) (by simp) ?_
  intro p ⟨hp, hi⟩
  simp
  refine ⟨fun hlt => ?_, fun hge => take_eq_full hi (by omega) (by omega)⟩
  have ha := pre3 _ (getD_mem (d := default) hlt)
  have hb := pre4 _ (getD_mem (d := default) (show p < b.length by omega))
  simp at ha hb
  refine ⟨⟨hlt, by omega, ha, hb⟩, fun h2 => ⟨by omega, Again.mk (p + 1) ⟨by omega, take_eq_step hi (by omega) (by omega) h2⟩ (by simp) (by first | omega | (simp; omega))⟩, fun h2 => by intro e; subst e; exact absurd rfl h2⟩
theorem c35_ok : c35.ok Try.prog := mkCon_ok fun ⟨a, b⟩ hpre => c35_pc a b hpre
/-- loop.example/g03007/laws.toParcelS -/
noncomputable def c32f : Con := mkCon 32 false (α := (List TParcel)) (fun x => (fun (l : List TParcel) => [encLTParcel l]) x) (fun _ => []) (fun x => (fun (l : List TParcel) => l.length ≤ 1099511627776 ∧ ∀ x ∈ l, smP x) x) (fun x => (fun (l : List TParcel) => (.own (0, 1) 4 0 l.length : D)) x) (fun x => (fun (l : List TParcel) => [((0, 1), .arr true 4 yTParcel (ML encTParcel l))]) x)
@[simp] theorem c32f_f : c32f.f = 32 := rfl
@[simp] theorem c32f_own : c32f.own = false := rfl
theorem c32f_inj : ∀ u_ v_ : (List TParcel), ((fun x => (fun (l : List TParcel) => [encLTParcel l]) x) u_).map nz = ((fun x => (fun (l : List TParcel) => [encLTParcel l]) x) v_).map nz → u_ = v_ := by
  intro u_ v_ h
  obtain l := u_
  obtain l' := v_
  simp [nz_lit, nz1_lit, nz_agg, nz_sl, nz1_sl, encLTParcel] at h
  first | (simp [h]; done) | (obtain ⟨⟩ := h; simp_all; done) | simp_all
@[simp] theorem c32f_fn (l : List TParcel) : c32f.fn [.sl false 4 yTParcel (ML encTParcel l)] [] = some ((fun (l : List TParcel) => l.length ≤ 1099511627776 ∧ ∀ x ∈ l, smP x) l, (fun (l : List TParcel) => (.own (0, 1) 4 0 l.length : D)) l, (fun (l : List TParcel) => [((0, 1), .arr true 4 yTParcel (ML encTParcel l))]) l) :=
  mkCon_fn (fun x y h _ => c32f_inj x y h) (l : (List TParcel)) (by simp [nz, nz1, ML_nil, encLTParcel]) rfl
@[simp] theorem c32f_fn1 (s_l : Nat) (z_l : D) : c32f.fn [.sl false s_l z_l []] [] = some ((fun (l : List TParcel) => l.length ≤ 1099511627776 ∧ ∀ x ∈ l, smP x) [], (fun (l : List TParcel) => (.own (0, 1) 4 0 l.length : D)) [], (fun (l : List TParcel) => [((0, 1), .arr true 4 yTParcel (ML encTParcel l))]) []) :=
  mkCon_fn (fun x y h _ => c32f_inj x y h) ([] : (List TParcel)) (by simp [nz, nz1, ML_nil, encLTParcel]) rfl
theorem c32f_pc (l : List TParcel) (hpre : l.length ≤ 1099511627776 ∧ ∀ x ∈ l, smP x) : PCo Try.prog 32 [encLTParcel l] (Tab.of []) (.own (0, 1) 4 0 l.length) (Tab.of [((0, 1), .arr true 4 yTParcel (ML encTParcel l))]) := by
  refine pco_of_run [] (E := ⟨[c61f], [], []⟩) (m := false) (base := 0) (Env.ok_cons c61f_ok Env.ok_nil) G_ok mix 300 6 Try.func32 (by kernel_rfl) rfl (by kernel_rfl) (by kernel_rfl) rfl ?_
  simp [Try.f32]
  obtain ⟨hp1, hp2⟩ := hpre
  refine ⟨by omega, ?_⟩
  refine loop_inv (fun p : Nat => p ≤ l.length) (fun p => [(0, encLTParcel l), (3, .own (0, 1) 4 0 l.length), (4, dI p)]) (fun p => [((0, 1), .arr true 4 yTParcel (ML encTParcel (l.take p) ++ List.replicate (l.length - p) (.agg [dI 0, dI 0, .sl true 0 .any [], dI 0])))]) 2 (fun p => l.length - p) 0 400 (by simp <;> exact .inr rfl) (by simp <;> exact .inr rfl) (by simp <;> exact .inr rfl) ?_
  intro p hp
  by_cases hlt : p < l.length
  · have hx := hp2 _ (getD_mem (d := default) hlt)
    simp at hx
    have hg := fun z => fillZ (e := encTParcel) (z := .agg [dI 0, dI 0, .sl true 0 .any [], dI 0]) (d := z) hlt
    have hs := fillS (e := encTParcel) (z := .agg [dI 0, dI 0, .sl true 0 .any [], dI 0]) (d := default) hlt rfl
    simp at hs
    simp [hg]
    refine ⟨fun _ => ?_, fun h => absurd hlt (by omega)⟩
    repeat' (first | exact hx | omega | refine And.intro ?_ ?_ | intro _)
    refine Again.mk (p + 1) (by omega) ?_ (by first | omega | (simp; omega))
    simp [hs]
  · have : p = l.length := by omega
    subst this; simp
theorem c32f_ok : c32f.ok Try.prog := mkCon_ok fun l hpre => c32f_pc l hpre
theorem ML_someP {l : List TParcel} {j : Nat} (h : j < l.length) : (ML encTParcel l)[j]? = some (encTParcel (l[j]?.getD default)) := by
  simp [ML, h]
def totP : List TParcel → Int
  | [] => 0
  | r :: t => 3 + r.Things.length + totP t
theorem totP_nn : ∀ (l : List TParcel), 0 ≤ totP l
  | [] => by simp [totP]
  | r :: t => by have := totP_nn t; simp only [totP]; omega
theorem totP_at {l : List TParcel} {p : Nat} (h : p < l.length) : totP (l.drop p) = 3 + (l[p]?.getD default).Things.length + totP (l.drop (p + 1)) := by
  rw [drop_at (d := default) h, totP]
theorem totP_end {l : List TParcel} {p : Nat} (h : l.length ≤ p) : totP (l.drop p) = 0 := by
  rw [List.drop_eq_nil_of_le h, totP]
theorem totP_run : ∀ (l : List TParcel) (q : Int), 0 ≤ q → 0 ≤ szRun szP q l → totP l ≤ q + 3 * l.length
  | [], q, hq, _ => by simp [totP, hq]
  | r :: t, q, hq, h => by
    simp only [szRun] at h
    split at h
    · omega
    · rename_i hn
      have h1 := totP_run t (szP r q) (by omega) h
      have h2 : szP r q = q - r.Things.length := by
        simp only [szP] at hn ⊢
        split at hn
        · omega
        · rename_i h3; rw [if_neg h3]
      simp only [totP, List.length_cons]; omega
theorem totP_sz {l : List TParcel} {left : Int} (h0 : l.length ≤ left) (h : 0 ≤ szDeep szP l left) : totP l ≤ left + 2 * l.length := by
  rw [szDeep, if_neg (by omega)] at h
  have := totP_run l _ (by omega) h
  omega
/-- loop.example/g03007/laws.markParcelS -/
noncomputable def c37 : Con := mkCon 37 true (α := (List TParcel) × Int) (fun x => (fun (l : List TParcel) (k : Int) => ([.own (0, 0) 4 0 l.length, dI k] : List D)) x.1 x.2) (fun x => (fun (l : List TParcel) (k : Int) => ([((0, 0), .arr true 4 yTParcel (ML encTParcel l))] : List (Nm × OO))) x.1 x.2) (fun x => (fun (l : List TParcel) (k : Int) => l.length ≤ 1099511627776 ∧ (∀ x ∈ l, smP x) ∧ 0 ≤ k ∧ k + totP l ≤ 1099511627776) x.1 x.2) (fun x => (fun (l : List TParcel) (k : Int) => (dI (k + totP l) : D)) x.1 x.2) (fun x => (fun (l : List TParcel) (k : Int) => ([] : List (Nm × OO))) x.1 x.2)
@[simp] theorem c37_f : c37.f = 37 := rfl
@[simp] theorem c37_own : c37.own = true := rfl
theorem c37_inj : ∀ u_ v_ : (List TParcel) × Int, ((fun x => (fun (l : List TParcel) (k : Int) => ([.own (0, 0) 4 0 l.length, dI k] : List D)) x.1 x.2) u_).map nz = ((fun x => (fun (l : List TParcel) (k : Int) => ([.own (0, 0) 4 0 l.length, dI k] : List D)) x.1 x.2) v_).map nz → (fun x => (fun (l : List TParcel) (k : Int) => ([((0, 0), .arr true 4 yTParcel (ML encTParcel l))] : List (Nm × OO))) x.1 x.2) u_ = (fun x => (fun (l : List TParcel) (k : Int) => ([((0, 0), .arr true 4 yTParcel (ML encTParcel l))] : List (Nm × OO))) x.1 x.2) v_ → u_ = v_ := by
  intro u_ v_ h h2_
  obtain ⟨l, k⟩ := u_
  obtain ⟨l', k'⟩ := v_
  simp [nz_lit, nz1_lit, nz_agg, nz_sl, nz1_sl, nz_sx, nz_el, nz1_el, nz_own, nz1_own, nz_ptr, nz_fn, nz_iface] at h h2_
  first | (simp [h, h2_]; done) | (obtain ⟨h3_, h4_⟩ := List.append_inj h2_ h.1; simp_all; done) | simp_all | grind
@[simp] theorem c37_fn (l : List TParcel) (k : Int) : c37.fn ([.own (0, 0) 4 0 l.length, dI k]) ([((0, 0), .arr true 4 yTParcel (ML encTParcel l))]) = some (l.length ≤ 1099511627776 ∧ (∀ x ∈ l, smP x) ∧ 0 ≤ k ∧ k + totP l ≤ 1099511627776, dI (k + totP l), []) :=
  mkCon_fn c37_inj ((l, k) : (List TParcel) × Int) rfl rfl
theorem c37_pc (l : List TParcel) (k : Int) (hpre : l.length ≤ 1099511627776 ∧ (∀ x ∈ l, smP x) ∧ 0 ≤ k ∧ k + totP l ≤ 1099511627776) : PCo Try.prog 37 ([.own (0, 0) 4 0 l.length, dI k]) (Tab.of ([((0, 0), .arr true 4 yTParcel (ML encTParcel l))])) (dI (k + totP l)) (Tab.of ([])) := by
  refine pco_of_run [] (E := ⟨[c16], [], []⟩) (m := false) (base := 0) (Env.ok_cons c16_ok Env.ok_nil) G_ok mix 300 6 Try.func37 (by kernel_rfl) rfl (by kernel_rfl) (by kernel_rfl) rfl ?_
  simp [Try.f37]
  obtain ⟨hp1, hp2, hp3, hp4⟩ := hpre
  refine loop_inv (fun s : Nat × Int × List D => s.1 ≤ l.length ∧ 0 ≤ s.2.1 ∧ s.2.1 + totP (l.drop s.1) = k + totP l ∧ s.2.2.length = l.length ∧ ∀ j, s.1 ≤ j → j < l.length → s.2.2[j]? = some (encTParcel (l[j]?.getD default))) (fun s => [(0, .own (0, 0) 4 0 l.length), (1, dI s.2.1), (5, dI s.1)]) (fun s => [((0, 0), .arr true 4 yTParcel s.2.2)]) 1 (fun s => l.length - s.1) (0, k, ML encTParcel l) 400 (by simp) ⟨by simp, hp3, by simp, by simp, fun j _ h => ML_someP h⟩ (by simp) ?_
  intro ⟨p, q, xs⟩ ⟨hp, hq, ht, hl, hx⟩
  simp only at hp hq ht hl hx
  by_cases hlt : p < l.length
  · have hm := hp2 _ (getD_mem (d := default) hlt)
    simp at hm
    have hxp := hx p (Nat.le_refl p) hlt
    have hn := totP_nn (l.drop (p + 1))
    rw [totP_at hlt] at ht
    generalize hr : l[p]?.getD default = r at *
    have hg : ∀ z, xs[p]?.getD z = .agg [dI r.From, dI r.To, encLI r.Things, dI r.At] := fun z => by rw [hxp]; rfl
    have hs : ∀ A, (xs.set p A)[p]? = some A := fun A => by simp [hl, hlt]
    have hpl : p < xs.length := by omega
    simp [hg, hs]
    refine ⟨fun _ => ?_, fun h => absurd hlt (by omega)⟩
    repeat' (first | omega | refine And.intro ?_ ?_ | intro _)
    refine Again.mk (p + 1, q + 1 + 1 + r.Things.length + 1, xs.set p (.agg [dI q, dI (q + 1), .any, dI (q + 1 + 1 + r.Things.length)])) ⟨by simp; omega, by simp; omega, by simp; omega, by simp [hl], fun j hj hj2 => ?_⟩ ?_ (by simp; omega)
    · have hne : p ≠ j := by simp at hj; omega
      simp only [List.getElem?_set_ne hne]
      exact hx j (by simp at hj; omega) hj2
    · simp
  · rw [totP_end (by omega)] at ht
    simp
    exact ⟨fun h => absurd h hlt, fun _ => by omega⟩
theorem c37_ok : c37.ok Try.prog := mkCon_ok fun ⟨l, k⟩ hpre => c37_pc l k hpre
/-- what has been sent after p parcels, and how many -/
noncomputable def sAll (l : List THand) (xs : List TParcel) : Nat → List THand
  | 0 => l
  | p + 1 => mSend (sAll l xs p) (xs[p]?.getD default)
noncomputable def sCnt (l : List THand) (xs : List TParcel) : Nat → Int
  | 0 => 0
  | p + 1 => if mSendOk (sAll l xs p) (xs[p]?.getD default) then sCnt l xs p + 1 else sCnt l xs p
theorem sAll_len (l : List THand) (xs : List TParcel) : ∀ p, p ≤ xs.length → (sAll l xs p).length + totP (xs.drop p) ≤ l.length + totP xs
  | 0, _ => by simp [sAll]
  | p + 1, h => by
    have h1 := sAll_len l xs p (by omega)
    have h2 := mSend_len (sAll l xs p) (xs[p]?.getD default)
    have h3 := totP_at (l := xs) (p := p) (by omega)
    simp only [sAll]; omega
theorem sAll_bd (l : List THand) (xs : List TParcel) {p : Nat} (h : p ≤ xs.length) : (sAll l xs p).length ≤ l.length + totP xs := by
  have h1 := sAll_len l xs p h
  have h2 := totP_nn (xs.drop p)
  omega
theorem sCnt_bd (l : List THand) (xs : List TParcel) : ∀ p, 0 ≤ sCnt l xs p ∧ sCnt l xs p ≤ p
  | 0 => by simp [sCnt]
  | p + 1 => by
    have := sCnt_bd l xs p
    simp only [sCnt]; split <;> omega
theorem sCnt_yes {l : List THand} {xs : List TParcel} {p : Nat} (h : mSendOk (sAll l xs p) (xs[p]?.getD default) = true) : sCnt l xs (p + 1) = sCnt l xs p + 1 := by simp [sCnt, h]
theorem sCnt_no {l : List THand} {xs : List TParcel} {p : Nat} (h : mSendOk (sAll l xs p) (xs[p]?.getD default) = false) : sCnt l xs (p + 1) = sCnt l xs p := by simp [sCnt, h]
/-- loop.example/g03007/spec.SendAll -/
noncomputable def c30 : Con := mkCon 30 false (α := (List THand) × (List TParcel)) (fun x => (fun (l : List THand) (xs : List TParcel) => [encLTHand l, encLTParcel xs]) x.1 x.2) (fun _ => []) (fun x => (fun (l : List THand) (xs : List TParcel) => l.length + totP xs ≤ 1073741000 ∧ xs.length ≤ 1099511627776 ∧ ∀ x ∈ xs, smP x) x.1 x.2) (fun x => (fun (l : List THand) (xs : List TParcel) => (.tup [.own (0, 1) 5 0 (sAll l xs xs.length).length, dI (sCnt l xs xs.length)] : D)) x.1 x.2) (fun x => (fun (l : List THand) (xs : List TParcel) => [((0, 1), .arr false 5 yTHand (ML encTHand (sAll l xs xs.length)))]) x.1 x.2)
@[simp] theorem c30_f : c30.f = 30 := rfl
@[simp] theorem c30_own : c30.own = false := rfl
theorem c30_inj : ∀ u_ v_ : (List THand) × (List TParcel), ((fun x => (fun (l : List THand) (xs : List TParcel) => [encLTHand l, encLTParcel xs]) x.1 x.2) u_).map nz = ((fun x => (fun (l : List THand) (xs : List TParcel) => [encLTHand l, encLTParcel xs]) x.1 x.2) v_).map nz → u_ = v_ := by
  intro u_ v_ h
  obtain ⟨l, xs⟩ := u_
  obtain ⟨l', xs'⟩ := v_
  simp [nz_lit, nz1_lit, nz_agg, nz_sl, nz1_sl, encLTHand, encLTParcel] at h
  first | (simp [h]; done) | (obtain ⟨⟩ := h; simp_all; done) | simp_all
@[simp] theorem c30_fn (l : List THand) (xs : List TParcel) : c30.fn [.sl false 5 yTHand (ML encTHand l), .sl false 4 yTParcel (ML encTParcel xs)] [] = some ((fun (l : List THand) (xs : List TParcel) => l.length + totP xs ≤ 1073741000 ∧ xs.length ≤ 1099511627776 ∧ ∀ x ∈ xs, smP x) l xs, (fun (l : List THand) (xs : List TParcel) => (.tup [.own (0, 1) 5 0 (sAll l xs xs.length).length, dI (sCnt l xs xs.length)] : D)) l xs, (fun (l : List THand) (xs : List TParcel) => [((0, 1), .arr false 5 yTHand (ML encTHand (sAll l xs xs.length)))]) l xs) :=
  mkCon_fn (fun x y h _ => c30_inj x y h) ((l, xs) : (List THand) × (List TParcel)) (by simp [nz, nz1, ML_nil, encLTHand, encLTParcel]) rfl
@[simp] theorem c30_fn1 (s_l : Nat) (z_l : D) (xs : List TParcel) : c30.fn [.sl false s_l z_l [], .sl false 4 yTParcel (ML encTParcel xs)] [] = some ((fun (l : List THand) (xs : List TParcel) => l.length + totP xs ≤ 1073741000 ∧ xs.length ≤ 1099511627776 ∧ ∀ x ∈ xs, smP x) [] xs, (fun (l : List THand) (xs : List TParcel) => (.tup [.own (0, 1) 5 0 (sAll l xs xs.length).length, dI (sCnt l xs xs.length)] : D)) [] xs, (fun (l : List THand) (xs : List TParcel) => [((0, 1), .arr false 5 yTHand (ML encTHand (sAll l xs xs.length)))]) [] xs) :=
  mkCon_fn (fun x y h _ => c30_inj x y h) (([], xs) : (List THand) × (List TParcel)) (by simp [nz, nz1, ML_nil, encLTHand, encLTParcel]) rfl
@[simp] theorem c30_fn2 (l : List THand) (s_xs : Nat) (z_xs : D) : c30.fn [.sl false 5 yTHand (ML encTHand l), .sl false s_xs z_xs []] [] = some ((fun (l : List THand) (xs : List TParcel) => l.length + totP xs ≤ 1073741000 ∧ xs.length ≤ 1099511627776 ∧ ∀ x ∈ xs, smP x) l [], (fun (l : List THand) (xs : List TParcel) => (.tup [.own (0, 1) 5 0 (sAll l xs xs.length).length, dI (sCnt l xs xs.length)] : D)) l [], (fun (l : List THand) (xs : List TParcel) => [((0, 1), .arr false 5 yTHand (ML encTHand (sAll l xs xs.length)))]) l []) :=
  mkCon_fn (fun x y h _ => c30_inj x y h) ((l, []) : (List THand) × (List TParcel)) (by simp [nz, nz1, ML_nil, encLTHand, encLTParcel]) rfl
@[simp] theorem c30_fn3 (s_l : Nat) (z_l : D) (s_xs : Nat) (z_xs : D) : c30.fn [.sl false s_l z_l [], .sl false s_xs z_xs []] [] = some ((fun (l : List THand) (xs : List TParcel) => l.length + totP xs ≤ 1073741000 ∧ xs.length ≤ 1099511627776 ∧ ∀ x ∈ xs, smP x) [] [], (fun (l : List THand) (xs : List TParcel) => (.tup [.own (0, 1) 5 0 (sAll l xs xs.length).length, dI (sCnt l xs xs.length)] : D)) [] [], (fun (l : List THand) (xs : List TParcel) => [((0, 1), .arr false 5 yTHand (ML encTHand (sAll l xs xs.length)))]) [] []) :=
  mkCon_fn (fun x y h _ => c30_inj x y h) (([], []) : (List THand) × (List TParcel)) (by simp [nz, nz1, ML_nil, encLTHand, encLTParcel]) rfl
theorem c30_pc (l : List THand) (xs : List TParcel) (hpre : l.length + totP xs ≤ 1073741000 ∧ xs.length ≤ 1099511627776 ∧ ∀ x ∈ xs, smP x) : PCo Try.prog 30 [encLTHand l, encLTParcel xs] (Tab.of []) (.tup [.own (0, 1) 5 0 (sAll l xs xs.length).length, dI (sCnt l xs xs.length)]) (Tab.of [((0, 1), .arr false 5 yTHand (ML encTHand (sAll l xs xs.length)))]) := by
  refine pco_of_run [] (E := ⟨[c59], [], []⟩) (m := false) (base := 0) (Env.ok_cons c59_ok Env.ok_nil) G_ok mix 300 6 Try.func30 (by kernel_rfl) rfl (by kernel_rfl) (by kernel_rfl) rfl ?_
  simp [Try.f30]
  obtain ⟨hp1, hp2, hp3⟩ := hpre
  have hnn := totP_nn xs
  refine ⟨by omega, ?_⟩
  refine loop_inv (fun p : Nat => p ≤ xs.length) (fun p => [(1, encLTParcel xs), (6, .own (0, 1) 5 0 (sAll l xs p).length), (7, dI (sCnt l xs p)), (8, dI p)]) (fun p => [((0, 1), .arr false 5 yTHand (ML encTHand (sAll l xs p)))]) 2 (fun p => xs.length - p) 0 400 (by simp [sAll, sCnt]) (by simp) (by simp [sAll, sCnt]) ?_
  intro p hp
  have hb := sAll_bd l xs hp
  have hc := sCnt_bd l xs p
  simp
  refine ⟨fun hlt => ?_, fun hge => ?_⟩
  · have hm := hp3 _ (getD_mem (d := default) hlt)
    simp at hm
    have hy := sCnt_yes (l := l) (xs := xs) (p := p)
    have hno := sCnt_no (l := l) (xs := xs) (p := p)
    repeat' (first | omega | refine And.intro ?_ ?_ | intro _)
    all_goals first | (have hw := hy (by assumption); exact Again.mk (p + 1) (by omega) (by simp [hw, sAll]) (by first | omega | (simp; omega))) | (have hw := hno (by assumption); exact Again.mk (p + 1) (by omega) (by simp [hw, sAll]) (by first | omega | (simp; omega)))
  · have : p = xs.length := by omega
    subst this; simp
theorem c30_ok : c30.ok Try.prog := mkCon_ok fun ⟨l, xs⟩ hpre => c30_pc l xs hpre
/-- loop.example/g03007/impl.SendAll -/
noncomputable def c33 : Con := mkCon 33 false (α := (List THand) × (List TParcel)) (fun x => (fun (l : List THand) (xs : List TParcel) => [encLTHand l, encLTParcel xs]) x.1 x.2) (fun _ => []) (fun x => (fun (l : List THand) (xs : List TParcel) => l.length + totP xs ≤ 1073741000 ∧ xs.length ≤ 1099511627776 ∧ ∀ x ∈ xs, smP x) x.1 x.2) (fun x => (fun (l : List THand) (xs : List TParcel) => (.tup [.own (0, 1) 5 0 (sAll l xs xs.length).length, dI (sCnt l xs xs.length)] : D)) x.1 x.2) (fun x => (fun (l : List THand) (xs : List TParcel) => [((0, 1), .arr false 5 yTHand (ML encTHand (sAll l xs xs.length)))]) x.1 x.2)
@[simp] theorem c33_f : c33.f = 33 := rfl
@[simp] theorem c33_own : c33.own = false := rfl
theorem c33_inj : ∀ u_ v_ : (List THand) × (List TParcel), ((fun x => (fun (l : List THand) (xs : List TParcel) => [encLTHand l, encLTParcel xs]) x.1 x.2) u_).map nz = ((fun x => (fun (l : List THand) (xs : List TParcel) => [encLTHand l, encLTParcel xs]) x.1 x.2) v_).map nz → u_ = v_ := by
  intro u_ v_ h
  obtain ⟨l, xs⟩ := u_
  obtain ⟨l', xs'⟩ := v_
  simp [nz_lit, nz1_lit, nz_agg, nz_sl, nz1_sl, encLTHand, encLTParcel] at h
  first | (simp [h]; done) | (obtain ⟨⟩ := h; simp_all; done) | simp_all
@[simp] theorem c33_fn (l : List THand) (xs : List TParcel) : c33.fn [.sl false 5 yTHand (ML encTHand l), .sl false 4 yTParcel (ML encTParcel xs)] [] = some ((fun (l : List THand) (xs : List TParcel) => l.length + totP xs ≤ 1073741000 ∧ xs.length ≤ 1099511627776 ∧ ∀ x ∈ xs, smP x) l xs, (fun (l : List THand) (xs : List TParcel) => (.tup [.own (0, 1) 5 0 (sAll l xs xs.length).length, dI (sCnt l xs xs.length)] : D)) l xs, (fun (l : List THand) (xs : List TParcel) => [((0, 1), .arr false 5 yTHand (ML encTHand (sAll l xs xs.length)))]) l xs) :=
  mkCon_fn (fun x y h _ => c33_inj x y h) ((l, xs) : (List THand) × (List TParcel)) (by simp [nz, nz1, ML_nil, encLTHand, encLTParcel]) rfl
@[simp] theorem c33_fn1 (s_l : Nat) (z_l : D) (xs : List TParcel) : c33.fn [.sl false s_l z_l [], .sl false 4 yTParcel (ML encTParcel xs)] [] = some ((fun (l : List THand) (xs : List TParcel) => l.length + totP xs ≤ 1073741000 ∧ xs.length ≤ 1099511627776 ∧ ∀ x ∈ xs, smP x) [] xs, (fun (l : List THand) (xs : List TParcel) => (.tup [.own (0, 1) 5 0 (sAll l xs xs.length).length, dI (sCnt l xs xs.length)] : D)) [] xs, (fun (l : List THand) (xs : List TParcel) => [((0, 1), .arr false 5 yTHand (ML encTHand (sAll l xs xs.length)))]) [] xs) :=
  mkCon_fn (fun x y h _ => c33_inj x y h) (([], xs) : (List THand) × (List TParcel)) (by simp [nz, nz1, ML_nil, encLTHand, encLTParcel]) rfl
@[simp] theorem c33_fn2 (l : List THand) (s_xs : Nat) (z_xs : D) : c33.fn [.sl false 5 yTHand (ML encTHand l), .sl false s_xs z_xs []] [] = some ((fun (l : List THand) (xs : List TParcel) => l.length + totP xs ≤ 1073741000 ∧ xs.length ≤ 1099511627776 ∧ ∀ x ∈ xs, smP x) l [], (fun (l : List THand) (xs : List TParcel) => (.tup [.own (0, 1) 5 0 (sAll l xs xs.length).length, dI (sCnt l xs xs.length)] : D)) l [], (fun (l : List THand) (xs : List TParcel) => [((0, 1), .arr false 5 yTHand (ML encTHand (sAll l xs xs.length)))]) l []) :=
  mkCon_fn (fun x y h _ => c33_inj x y h) ((l, []) : (List THand) × (List TParcel)) (by simp [nz, nz1, ML_nil, encLTHand, encLTParcel]) rfl
@[simp] theorem c33_fn3 (s_l : Nat) (z_l : D) (s_xs : Nat) (z_xs : D) : c33.fn [.sl false s_l z_l [], .sl false s_xs z_xs []] [] = some ((fun (l : List THand) (xs : List TParcel) => l.length + totP xs ≤ 1073741000 ∧ xs.length ≤ 1099511627776 ∧ ∀ x ∈ xs, smP x) [] [], (fun (l : List THand) (xs : List TParcel) => (.tup [.own (0, 1) 5 0 (sAll l xs xs.length).length, dI (sCnt l xs xs.length)] : D)) [] [], (fun (l : List THand) (xs : List TParcel) => [((0, 1), .arr false 5 yTHand (ML encTHand (sAll l xs xs.length)))]) [] []) :=
  mkCon_fn (fun x y h _ => c33_inj x y h) (([], []) : (List THand) × (List TParcel)) (by simp [nz, nz1, ML_nil, encLTHand, encLTParcel]) rfl
theorem c33_pc (l : List THand) (xs : List TParcel) (hpre : l.length + totP xs ≤ 1073741000 ∧ xs.length ≤ 1099511627776 ∧ ∀ x ∈ xs, smP x) : PCo Try.prog 33 [encLTHand l, encLTParcel xs] (Tab.of []) (.tup [.own (0, 1) 5 0 (sAll l xs xs.length).length, dI (sCnt l xs xs.length)]) (Tab.of [((0, 1), .arr false 5 yTHand (ML encTHand (sAll l xs xs.length)))]) := by
  refine pco_of_run [] (E := ⟨[c62, c63], [], []⟩) (m := false) (base := 0) (Env.ok_cons c62_ok (Env.ok_cons c63_ok Env.ok_nil)) G_ok mix 300 6 Try.func33 (by kernel_rfl) rfl (by kernel_rfl) (by kernel_rfl) rfl ?_
  simp [Try.f33]
  obtain ⟨hp1, hp2, hp3⟩ := hpre
  have hnn := totP_nn xs
  refine ⟨by omega, ?_⟩
  refine loop_inv (fun p : Nat => p ≤ xs.length) (fun p => [(6, .own (0, 1) 5 0 (sAll l xs p).length), (7, dI (sCnt l xs p)), (14, encLTParcel xs), (15, dI xs.length), (16, dI p)]) (fun p => [((0, 1), .arr false 5 yTHand (ML encTHand (sAll l xs p)))]) 2 (fun p => xs.length - p) 0 400 (by simp [sAll, sCnt]) (by simp) (by simp [sAll, sCnt]) ?_
  intro p hp
  have hb := sAll_bd l xs hp
  have hc := sCnt_bd l xs p
  simp
  refine ⟨fun hlt => ?_, fun hge => ?_⟩
  · have hm := hp3 _ (getD_mem (d := default) hlt)
    simp at hm
    have hy := sCnt_yes (l := l) (xs := xs) (p := p)
    have hno := sCnt_no (l := l) (xs := xs) (p := p)
    repeat' (first | omega | refine And.intro ?_ ?_ | intro _)
    all_goals first | (have hw := hy (by assumption); exact Again.mk (p + 1) (by omega) (by simp [hw, sAll]) (by first | omega | (simp; omega))) | (have hw := hno (by assumption); exact Again.mk (p + 1) (by omega) (by simp [hw, sAll]) (by first | omega | (simp; omega)))
  · have : p = xs.length := by omega
    subst this; simp
theorem c33_ok : c33.ok Try.prog := mkCon_ok fun ⟨l, xs⟩ hpre => c33_pc l xs hpre

end Go.Proofs.Ytnghehfdclhfdaa
