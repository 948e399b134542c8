/- Contracts of the functions that the laws run. -/
import Derived.Test.Ytlnllkffifeggaach08
import Derived.Test.YtlnllkffifeggaaEngB
namespace Go.Proofs.Ytlnllkffifeggaa
open Go Go.Eng
set_option linter.unusedSimpArgs false
set_option linter.unusedVariables false
set_option maxRecDepth 10000
set_option maxHeartbeats 1000000
def tyO : Option (List Int) → Nat
  | none => 65
  | some _ => 51
def inO : Option (List Int) → D
  | none => .agg []
  | some l => encLI l
theorem inO_none : inO none = .agg [] := rfl
theorem inO_some {l : List Int} : inO (some l) = encLI l := rfl
theorem chD_none : (D.iface (tyO none) (inO none)) = .iface 65 (.agg []) := rfl
theorem chD_some {l : List Int} : (D.iface (tyO (some l)) (inO (some l))) = .iface 51 (encLI l) := rfl
theorem tyO_none : tyO none = 65 := rfl
theorem tyO_some {l : List Int} : tyO (some l) = 51 := rfl
@[simp] theorem chD_inj {a b : Option (List Int)} : (tyO a = tyO b ∧ inO a = inO b) ↔ a = b := by
  refine ⟨fun h => ?_, fun h => by rw [h]; exact ⟨rfl, rfl⟩⟩
  obtain ⟨h1, h⟩ := h
  obtain _ | a := a <;> obtain _ | b := b
  · rfl
  · rw [tyO_none, tyO_some] at h1; simp at h1
  · rw [tyO_none, tyO_some] at h1; simp at h1
  · rw [inO_some, inO_some] at h; simpa using h
@[simp] theorem pureD_inO (o : Option (List Int)) : pureD (inO o) = true := by
  obtain _ | a := o
  · rfl
  · simp [inO_some]
@[simp high] theorem lendD_inO (T : Tab) (k : Nat) (o : Option (List Int)) : lendD T (k + 1) (inO o) = inO o := by
  obtain _ | a := o
  · rfl
  · simp [inO_some, lendD]
@[simp high] theorem lendOk_inO (T : Tab) (k : Nat) (o : Option (List Int)) : lendOk T (k + 1) (inO o) = True := by
  obtain _ | a := o
  · simp [inO_none, lendOk]
  · simp [inO_some, lendOk]
def chLen : Option (List Int) → Nat
  | none => 0
  | some l => l.length
@[simp] theorem chLen_none : chLen none = 0 := rfl
@[simp] theorem chLen_some {l} : chLen (some l) = l.length := rfl
def hasC : Option (List Int) → Int → Bool
  | none, _ => true
  | some l, n => decide (n ∈ l)
@[simp] theorem hasC_none {n} : hasC none n = true := rfl
theorem hasC_some {l n} : hasC (some l) n = decide (n ∈ l) := rfl
def hasAll (o : Option (List Int)) : Option (List Int) → Bool
  | none => decide (o = none)
  | some b => !(decide (0 ≤ indexBy (fun n => !hasC o n) 0 b))
theorem hasAll_none {o} : hasAll o none = decide (o = none) := rfl
theorem hasAll_some {o b} : hasAll o (some b) = !(decide (0 ≤ indexBy (fun n => !hasC o n) 0 b)) := rfl
theorem indexBy_any9 {w : Int → Bool} : ∀ (l : List Int) (i : Int), 0 ≤ i → (0 ≤ indexBy w i l ↔ l.any w = true)
  | [], i, _ => by simp [indexBy]
  | x :: r, i, hi => by
    have := indexBy_any9 (w := w) r (i + 1) (by omega)
    by_cases hx : w x = true
    · simp [indexBy, hx, hi]
    · simp [indexBy, hx, this]
def chOf (l : List Int) : Option (List Int) := if l = [] then none else some l
@[simp] theorem chLen_chOf (l : List Int) : chLen (chOf l) = l.length := by
  by_cases h : l = [] <;> simp [chOf, h]
def wid (a b : List Int) : Bool := decide (a = []) || (!decide (b = []) && b.all fun n => decide (n ∈ a))
theorem hasAll_wid (a b : List Int) : hasAll (chOf a) (chOf b) = wid a b := by
  by_cases hb : b = []
  · by_cases ha : a = [] <;> simp [chOf, hb, ha, hasAll_none, wid]
  · by_cases ha : a = []
    · have h := indexBy_any9 (w := fun n => !hasC none n) b 0 (by omega)
      simp [chOf, hb, ha, hasAll_some, wid]
      simp at h
      exact h
    · have h := indexBy_any9 (w := fun n => !hasC (some a) n) b 0 (by omega)
      simp [chOf, hb, ha, hasAll_some, wid]
      rw [Bool.eq_iff_iff]
      simp
      have h2 : indexBy (fun n => !hasC (some a) n) 0 b < 0 ↔ ¬ (0 ≤ indexBy (fun n => !hasC (some a) n) 0 b) := by omega
      first | rw [h2, h] | rw [h]
      simp [hasC_some]
/-- slices.Index[loop.example/g03007/impl.onl -/
noncomputable def c94 : Con := mkCon 94 false (α := (List Int) × Int) (fun x => (fun (l : List Int) (n : Int) => [encLI l, dI n]) x.1 x.2) (fun _ => []) (fun x => (fun (l : List Int) (n : Int) => l.length ≤ 1099511627776) x.1 x.2) (fun x => (fun (l : List Int) (n : Int) => (dI (indexBy (wantN (fun x => x) n) 0 l) : D)) x.1 x.2) (fun x => (fun (l : List Int) (n : Int) => []) x.1 x.2)
@[simp] theorem c94_f : c94.f = 94 := rfl
@[simp] theorem c94_own : c94.own = false := rfl
theorem c94_inj : ∀ u_ v_ : (List Int) × Int, ((fun x => (fun (l : List Int) (n : Int) => [encLI l, dI n]) x.1 x.2) u_).map nz = ((fun x => (fun (l : List Int) (n : Int) => [encLI l, dI n]) x.1 x.2) v_).map nz → u_ = v_ := by
  intro u_ v_ h
  obtain ⟨l, n⟩ := u_
  obtain ⟨l', n'⟩ := v_
  simp [nz_lit, nz1_lit, nz_agg, nz_sl, nz1_sl, encLI] at h
  first | (simp [h]; done) | (obtain ⟨⟩ := h; simp_all; done) | simp_all
@[simp] theorem c94_fn (l : List Int) (n : Int) : c94.fn [.sl false 1 (.lit (.int .i64 0)) (ML dI l), .lit (.int .i64 n)] [] = some ((fun (l : List Int) (n : Int) => l.length ≤ 1099511627776) l n, (fun (l : List Int) (n : Int) => (dI (indexBy (wantN (fun x => x) n) 0 l) : D)) l n, (fun (l : List Int) (n : Int) => []) l n) :=
  mkCon_fn (fun x y h _ => c94_inj x y h) ((l, n) : (List Int) × Int) (by simp [nz, nz1, ML_nil, encLI]) rfl
@[simp] theorem c94_fn1 (s_l : Nat) (z_l : D) (n : Int) : c94.fn [.sl false s_l z_l [], .lit (.int .i64 n)] [] = some ((fun (l : List Int) (n : Int) => l.length ≤ 1099511627776) [] n, (fun (l : List Int) (n : Int) => (dI (indexBy (wantN (fun x => x) n) 0 l) : D)) [] n, (fun (l : List Int) (n : Int) => []) [] n) :=
  mkCon_fn (fun x y h _ => c94_inj x y h) (([], n) : (List Int) × Int) (by simp [nz, nz1, ML_nil, encLI]) rfl
theorem c94_pc (l : List Int) (n : Int) (hpre : l.length ≤ 1099511627776) : PCo Try.prog 94 [encLI l, dI n] (Tab.of []) (dI (indexBy (wantN (fun x => x) n) 0 l)) (Tab.of []) := by
  refine pco_of_run [] (E := ⟨[], []⟩) (m := false) (base := 0) Env.ok_nil G_ok mix 300 6 Try.func94 (by kernel_rfl) rfl (by kernel_rfl) (by kernel_rfl) rfl ?_
  simp [Try.f94]
  refine loop_inv (fun p : Nat => p ≤ l.length ∧ indexBy (wantN (fun x => x) n) 0 l = indexBy (wantN (fun x => x) n) p (l.drop p)) (fun p => [(0, encLI l), (1, dI n), (7, dI l.length), (8, dI p)]) (fun _ => []) 1 (fun p => l.length - p) 0 400 (by simp) (by simp) (by simp) ?_
  intro p ⟨hp, hi⟩
  simp
  refine ⟨fun hlt => ?_, fun hge => ?_⟩
  · rw [indexBy_at (d := 0) hlt] at hi; simp only [wantN, decide_eq_true_eq] at hi
    repeat' (first | omega | refine And.intro ?_ ?_ | intro _)
    all_goals first | exact Again.mk (p + 1) ⟨by omega, by rw [hi]; grind⟩ (by simp) (by first | omega | (simp; omega)) | (rw [hi]; grind)
  · rw [hi, indexBy_end hge]
theorem c94_ok : c94.ok Try.prog := mkCon_ok fun ⟨l, n⟩ hpre => c94_pc l n hpre
/-- slices.Contains[loop.example/g03007/impl.onl -/
noncomputable def c93 : Con := mkCon 93 false (α := (List Int) × Int) (fun x => (fun (l : List Int) (n : Int) => [encLI l, dI n]) x.1 x.2) (fun _ => []) (fun x => (fun (l : List Int) (n : Int) => l.length ≤ 1099511627776) x.1 x.2) (fun x => (fun (l : List Int) (n : Int) => (dB (decide (n ∈ l)) : D)) x.1 x.2) (fun x => (fun (l : List Int) (n : Int) => []) x.1 x.2)
@[simp] theorem c93_f : c93.f = 93 := rfl
@[simp] theorem c93_own : c93.own = false := rfl
theorem c93_inj : ∀ u_ v_ : (List Int) × Int, ((fun x => (fun (l : List Int) (n : Int) => [encLI l, dI n]) x.1 x.2) u_).map nz = ((fun x => (fun (l : List Int) (n : Int) => [encLI l, dI n]) x.1 x.2) v_).map nz → u_ = v_ := by
  intro u_ v_ h
  obtain ⟨l, n⟩ := u_
  obtain ⟨l', n'⟩ := v_
  simp [nz_lit, nz1_lit, nz_agg, nz_sl, nz1_sl, encLI] at h
  first | (simp [h]; done) | (obtain ⟨⟩ := h; simp_all; done) | simp_all
@[simp] theorem c93_fn (l : List Int) (n : Int) : c93.fn [.sl false 1 (.lit (.int .i64 0)) (ML dI l), .lit (.int .i64 n)] [] = some ((fun (l : List Int) (n : Int) => l.length ≤ 1099511627776) l n, (fun (l : List Int) (n : Int) => (dB (decide (n ∈ l)) : D)) l n, (fun (l : List Int) (n : Int) => []) l n) :=
  mkCon_fn (fun x y h _ => c93_inj x y h) ((l, n) : (List Int) × Int) (by simp [nz, nz1, ML_nil, encLI]) rfl
@[simp] theorem c93_fn1 (s_l : Nat) (z_l : D) (n : Int) : c93.fn [.sl false s_l z_l [], .lit (.int .i64 n)] [] = some ((fun (l : List Int) (n : Int) => l.length ≤ 1099511627776) [] n, (fun (l : List Int) (n : Int) => (dB (decide (n ∈ l)) : D)) [] n, (fun (l : List Int) (n : Int) => []) [] n) :=
  mkCon_fn (fun x y h _ => c93_inj x y h) (([], n) : (List Int) × Int) (by simp [nz, nz1, ML_nil, encLI]) rfl
theorem c93_pc (l : List Int) (n : Int) (hpre : l.length ≤ 1099511627776) : PCo Try.prog 93 [encLI l, dI n] (Tab.of []) (dB (decide (n ∈ l))) (Tab.of []) := by
  refine pco_of_run [] (E := ⟨[c94], []⟩) (m := false) (base := 0) (Env.ok_cons c94_ok Env.ok_nil) G_ok mix 300 6 Try.func93 (by kernel_rfl) rfl (by kernel_rfl) (by kernel_rfl) rfl ?_
  simp [Try.f93]
  refine ⟨hpre, ?_⟩
  exact indexBy_mem l 0 (by omega)
theorem c93_ok : c93.ok Try.prog := mkCon_ok fun ⟨l, n⟩ hpre => c93_pc l n hpre
/-- (loop.example/g03007/impl.only).has -/
noncomputable def c92 : Con := mkCon 92 false (α := (List Int) × Int) (fun x => (fun (l : List Int) (n : Int) => [encLI l, dI n]) x.1 x.2) (fun _ => []) (fun x => (fun (l : List Int) (n : Int) => l.length ≤ 1099511627776) x.1 x.2) (fun x => (fun (l : List Int) (n : Int) => (dB (decide (n ∈ l)) : D)) x.1 x.2) (fun x => (fun (l : List Int) (n : Int) => []) x.1 x.2)
@[simp] theorem c92_f : c92.f = 92 := rfl
@[simp] theorem c92_own : c92.own = false := rfl
theorem c92_inj : ∀ u_ v_ : (List Int) × Int, ((fun x => (fun (l : List Int) (n : Int) => [encLI l, dI n]) x.1 x.2) u_).map nz = ((fun x => (fun (l : List Int) (n : Int) => [encLI l, dI n]) x.1 x.2) v_).map nz → u_ = v_ := by
  intro u_ v_ h
  obtain ⟨l, n⟩ := u_
  obtain ⟨l', n'⟩ := v_
  simp [nz_lit, nz1_lit, nz_agg, nz_sl, nz1_sl, encLI] at h
  first | (simp [h]; done) | (obtain ⟨⟩ := h; simp_all; done) | simp_all
@[simp] theorem c92_fn (l : List Int) (n : Int) : c92.fn [.sl false 1 (.lit (.int .i64 0)) (ML dI l), .lit (.int .i64 n)] [] = some ((fun (l : List Int) (n : Int) => l.length ≤ 1099511627776) l n, (fun (l : List Int) (n : Int) => (dB (decide (n ∈ l)) : D)) l n, (fun (l : List Int) (n : Int) => []) l n) :=
  mkCon_fn (fun x y h _ => c92_inj x y h) ((l, n) : (List Int) × Int) (by simp [nz, nz1, ML_nil, encLI]) rfl
@[simp] theorem c92_fn1 (s_l : Nat) (z_l : D) (n : Int) : c92.fn [.sl false s_l z_l [], .lit (.int .i64 n)] [] = some ((fun (l : List Int) (n : Int) => l.length ≤ 1099511627776) [] n, (fun (l : List Int) (n : Int) => (dB (decide (n ∈ l)) : D)) [] n, (fun (l : List Int) (n : Int) => []) [] n) :=
  mkCon_fn (fun x y h _ => c92_inj x y h) (([], n) : (List Int) × Int) (by simp [nz, nz1, ML_nil, encLI]) rfl
theorem c92_pc (l : List Int) (n : Int) (hpre : l.length ≤ 1099511627776) : PCo Try.prog 92 [encLI l, dI n] (Tab.of []) (dB (decide (n ∈ l))) (Tab.of []) := by
  refine pco_of_run [] (E := ⟨[c93], []⟩) (m := false) (base := 0) (Env.ok_cons c93_ok Env.ok_nil) G_ok mix 300 6 Try.func92 (by kernel_rfl) rfl (by kernel_rfl) (by kernel_rfl) rfl ?_
  simp [Try.f92]
  exact hpre
theorem c92_ok : c92.ok Try.prog := mkCon_ok fun ⟨l, n⟩ hpre => c92_pc l n hpre
/-- (loop.example/g03007/impl.everything).has -/
noncomputable def c95 : Con := mkCon 95 false (α := Int) (fun x => (fun (n : Int) => ([.agg [], dI n] : List D)) x) (fun x => (fun (n : Int) => ([] : List (Nm × OO))) x) (fun x => (fun (n : Int) => True) x) (fun x => (fun (n : Int) => (dB true : D)) x) (fun x => (fun (n : Int) => ([] : List (Nm × OO))) x)
@[simp] theorem c95_f : c95.f = 95 := rfl
@[simp] theorem c95_own : c95.own = false := rfl
theorem c95_inj : ∀ u_ v_ : Int, ((fun x => (fun (n : Int) => ([.agg [], dI n] : List D)) x) u_).map nz = ((fun x => (fun (n : Int) => ([.agg [], dI n] : List D)) x) v_).map nz → (fun x => (fun (n : Int) => ([] : List (Nm × OO))) x) u_ = (fun x => (fun (n : Int) => ([] : List (Nm × OO))) x) v_ → u_ = v_ := by
  intro u_ v_ h h2_
  obtain n := u_
  obtain n' := v_
  simp [nz_lit, nz1_lit, nz_agg, nz_sl, nz1_sl, nz_sx, nz_el, nz1_el, nz_own, nz1_own, nz_ptr, nz_fn, nz_iface] at h h2_
  first | (simp [h, h2_]; done) | (obtain ⟨h3_, h4_⟩ := List.append_inj h2_ h.1; simp_all; done) | simp_all | grind
@[simp] theorem c95_fn (n : Int) : c95.fn ([.agg [], dI n]) ([]) = some (True, dB true, []) :=
  mkCon_fn c95_inj (n : Int) rfl rfl
theorem c95_pc (n : Int) : PCo Try.prog 95 ([.agg [], dI n]) (Tab.of ([])) (dB true) (Tab.of ([])) := by
  refine pco_of_run [] (E := ⟨[], []⟩) (m := false) (base := 0) Env.ok_nil G_ok mix 300 6 Try.func95 (by kernel_rfl) rfl (by kernel_rfl) (by kernel_rfl) rfl ?_
  simp [Try.f95]
  first | done | rfl
theorem c95_ok : c95.ok Try.prog := mkCon_ok fun n hpre => c95_pc n
/-- loop.example/g03007/impl.hasAllOf$1 -/
noncomputable def c40 : Con := mkCon 40 false (α := Int × (Option (List Int))) (fun x => (fun (n : Int) (o : Option (List Int)) => ([dI n, .el ((D.iface (tyO o) (inO o)))] : List D)) x.1 x.2) (fun x => (fun (n : Int) (o : Option (List Int)) => ([] : List (Nm × OO))) x.1 x.2) (fun x => (fun (n : Int) (o : Option (List Int)) => chLen o ≤ 1099511627776) x.1 x.2) (fun x => (fun (n : Int) (o : Option (List Int)) => (dB (!hasC o n) : D)) x.1 x.2) (fun x => (fun (n : Int) (o : Option (List Int)) => ([] : List (Nm × OO))) x.1 x.2)
@[simp] theorem c40_f : c40.f = 40 := rfl
@[simp] theorem c40_own : c40.own = false := rfl
theorem c40_inj : ∀ u_ v_ : Int × (Option (List Int)), ((fun x => (fun (n : Int) (o : Option (List Int)) => ([dI n, .el ((D.iface (tyO o) (inO o)))] : List D)) x.1 x.2) u_).map nz = ((fun x => (fun (n : Int) (o : Option (List Int)) => ([dI n, .el ((D.iface (tyO o) (inO o)))] : List D)) x.1 x.2) v_).map nz → (fun x => (fun (n : Int) (o : Option (List Int)) => ([] : List (Nm × OO))) x.1 x.2) u_ = (fun x => (fun (n : Int) (o : Option (List Int)) => ([] : List (Nm × OO))) x.1 x.2) v_ → u_ = v_ := by
  intro u_ v_ h h2_
  obtain ⟨n, o⟩ := u_
  obtain ⟨n', o'⟩ := v_
  simp [nz_lit, nz1_lit, nz_agg, nz_sl, nz1_sl, nz_sx, nz_el, nz1_el, nz_own, nz1_own, nz_ptr, nz_fn, nz_iface] at h h2_
  first | (simp [h, h2_]; done) | (obtain ⟨h3_, h4_⟩ := List.append_inj h2_ h.1; simp_all; done) | simp_all | grind
@[simp] theorem c40_fn (n : Int) (o : Option (List Int)) : c40.fn ([dI n, .el ((D.iface (tyO o) (inO o)))]) ([]) = some (chLen o ≤ 1099511627776, dB (!hasC o n), []) :=
  mkCon_fn c40_inj ((n, o) : Int × (Option (List Int))) rfl rfl
theorem c40_pc (n : Int) (o : Option (List Int)) (hpre : chLen o ≤ 1099511627776) : PCo Try.prog 40 ([dI n, .el ((D.iface (tyO o) (inO o)))]) (Tab.of ([])) (dB (!hasC o n)) (Tab.of ([])) := by
  refine pco_of_run [] (E := ⟨[c92, c95], [(51, "loop.example/g03007/impl.has", 92), (65, "loop.example/g03007/impl.has", 95)]⟩) (m := false) (base := 0) (Env.ok_cons c92_ok (Env.ok_cons c95_ok (Env.ok_me (meth_of (by kernel_rfl) (by kernel_rfl)) (Env.ok_me (meth_of (by kernel_rfl) (by kernel_rfl)) Env.ok_nil)))) G_ok mix 300 6 Try.func40 (by kernel_rfl) rfl (by kernel_rfl) (by kernel_rfl) rfl ?_
  obtain _ | a := o
  · simp [Try.f40, tyO_none, inO_none]
  · simp [Try.f40, tyO_some, inO_some, hasC_some]
    first | done | exact hpre | (simp at hpre; exact hpre)
theorem c40_ok : c40.ok Try.prog := mkCon_ok fun ⟨n, o⟩ hpre => c40_pc n o hpre
@[simp] theorem hasAllOf1_E {n : Int} : c40.fn [dI n, .el (.iface 65 (.agg []))] [] = some (0 ≤ 1099511627776, dB false, []) := c40_fn n none
@[simp] theorem hasAllOf1_O {n : Int} {a : List Int} : c40.fn [dI n, .el (.iface 51 (.sl false 1 (.lit (.int .i64 0)) (ML dI a)))] [] = some (a.length ≤ 1099511627776, dB (!hasC (some a) n), []) := c40_fn n (some a)
/-- slices.IndexFunc[loop.example/g03007/impl.onl -/
noncomputable def c47 : Con := mkCon 47 false (α := (List Int) × (Option (List Int))) (fun x => (fun (b : List Int) (o : Option (List Int)) => ([encLI b, .fn (.func 40) [] [.el ((D.iface (tyO o) (inO o)))]] : List D)) x.1 x.2) (fun x => (fun (b : List Int) (o : Option (List Int)) => ([] : List (Nm × OO))) x.1 x.2) (fun x => (fun (b : List Int) (o : Option (List Int)) => b.length ≤ 1099511627776 ∧ chLen o ≤ 1099511627776) x.1 x.2) (fun x => (fun (b : List Int) (o : Option (List Int)) => (dI (indexBy (fun n => !hasC o n) 0 b) : D)) x.1 x.2) (fun x => (fun (b : List Int) (o : Option (List Int)) => ([] : List (Nm × OO))) x.1 x.2)
@[simp] theorem c47_f : c47.f = 47 := rfl
@[simp] theorem c47_own : c47.own = false := rfl
theorem c47_inj : ∀ u_ v_ : (List Int) × (Option (List Int)), ((fun x => (fun (b : List Int) (o : Option (List Int)) => ([encLI b, .fn (.func 40) [] [.el ((D.iface (tyO o) (inO o)))]] : List D)) x.1 x.2) u_).map nz = ((fun x => (fun (b : List Int) (o : Option (List Int)) => ([encLI b, .fn (.func 40) [] [.el ((D.iface (tyO o) (inO o)))]] : List D)) x.1 x.2) v_).map nz → (fun x => (fun (b : List Int) (o : Option (List Int)) => ([] : List (Nm × OO))) x.1 x.2) u_ = (fun x => (fun (b : List Int) (o : Option (List Int)) => ([] : List (Nm × OO))) x.1 x.2) v_ → u_ = v_ := by
  intro u_ v_ h h2_
  obtain ⟨b, o⟩ := u_
  obtain ⟨b', o'⟩ := v_
  simp [nz_lit, nz1_lit, nz_agg, nz_sl, nz1_sl, nz_sx, nz_el, nz1_el, nz_own, nz1_own, nz_ptr, nz_fn, nz_iface] at h h2_
  first | (simp [h, h2_]; done) | (obtain ⟨h3_, h4_⟩ := List.append_inj h2_ h.1; simp_all; done) | simp_all | grind
@[simp] theorem c47_fn (b : List Int) (o : Option (List Int)) : c47.fn ([(.sl false 1 (.lit (.int .i64 0)) (ML dI b)), .fn (.func 40) [] [.el ((D.iface (tyO o) (inO o)))]]) ([]) = some (b.length ≤ 1099511627776 ∧ chLen o ≤ 1099511627776, dI (indexBy (fun n => !hasC o n) 0 b), []) :=
  mkCon_fn c47_inj ((b, o) : (List Int) × (Option (List Int))) rfl rfl
theorem c47_pc (b : List Int) (o : Option (List Int)) (hpre : b.length ≤ 1099511627776 ∧ chLen o ≤ 1099511627776) : PCo Try.prog 47 ([encLI b, .fn (.func 40) [] [.el ((D.iface (tyO o) (inO o)))]]) (Tab.of ([])) (dI (indexBy (fun n => !hasC o n) 0 b)) (Tab.of ([])) := by
  refine pco_of_run [] (E := ⟨[c40], []⟩) (m := false) (base := 0) (Env.ok_cons c40_ok Env.ok_nil) G_ok mix 300 6 Try.func47 (by kernel_rfl) rfl (by kernel_rfl) (by kernel_rfl) rfl ?_
  obtain ⟨hp1, hp2⟩ := hpre
  obtain _ | a := o
  · simp [Try.f47, tyO_none, inO_none]
    refine loop_inv (fun p : Nat => p ≤ b.length ∧ indexBy (fun n => !hasC none n) 0 b = indexBy (fun n => !hasC none n) p (b.drop p)) (fun p => [(0, encLI b), (1, .fn (.func 40) [] [.el (.iface 65 (.agg []))]), (7, dI b.length), (8, dI p)]) (fun _ => []) 1 (fun p => b.length - p) 0 400 (by simp) (by simp) (by simp) ?_
    intro p ⟨hp, hi⟩
    simp
    simp at hi
    refine ⟨fun hlt => ?_, fun hge => ?_⟩
    · rw [indexBy_at (d := 0) hlt] at hi; simp at hi
      repeat' (first | omega | refine And.intro ?_ ?_ | intro _)
      all_goals first | exact Again.mk (p + 1) ⟨by omega, by simpa using hi⟩ (by simp) (by first | omega | (simp; omega)) | (rw [hi]; grind)
    · rw [hi, indexBy_end hge]
  · simp [Try.f47, tyO_some, inO_some]
    simp at hp2
    refine loop_inv (fun p : Nat => p ≤ b.length ∧ indexBy (fun n => !hasC (some a) n) 0 b = indexBy (fun n => !hasC (some a) n) p (b.drop p)) (fun p => [(0, encLI b), (1, .fn (.func 40) [] [.el (.iface 51 (encLI a))]), (7, dI b.length), (8, dI p)]) (fun _ => []) 1 (fun p => b.length - p) 0 400 (by simp) (by simp) (by simp) ?_
    intro p ⟨hp, hi⟩
    simp
    refine ⟨fun hlt => ?_, fun hge => ?_⟩
    · rw [indexBy_at (d := 0) hlt] at hi
      refine ⟨⟨hlt, hp2⟩, fun hh => ?_, fun hh => ?_⟩
      · rw [hi]; simp [hh]
      · refine ⟨by omega, ?_⟩
        exact Again.mk (p + 1) ⟨by omega, by rw [hi]; simp [hh]⟩ (by simp) (by first | omega | (simp; omega))
    · rw [hi, indexBy_end hge]
theorem c47_ok : c47.ok Try.prog := mkCon_ok fun ⟨b, o⟩ hpre => c47_pc b o hpre
@[simp] theorem ixo_E {b : List Int} : c47.fn [.sl false 1 (.lit (.int .i64 0)) (ML dI b), .fn (.func 40) [] [.el (.iface 65 (.agg []))]] [] = some (b.length ≤ 1099511627776 ∧ 0 ≤ 1099511627776, dI (indexBy (fun n => !hasC none n) 0 b), []) := c47_fn b none
@[simp] theorem ixo_O {b a : List Int} : c47.fn [.sl false 1 (.lit (.int .i64 0)) (ML dI b), .fn (.func 40) [] [.el (.iface 51 (.sl false 1 (.lit (.int .i64 0)) (ML dI a)))]] [] = some (b.length ≤ 1099511627776 ∧ a.length ≤ 1099511627776, dI (indexBy (fun n => !hasC (some a) n) 0 b), []) := c47_fn b (some a)
/-- slices.ContainsFunc[loop.example/g03007/impl.onl -/
noncomputable def c39 : Con := mkCon 39 false (α := (List Int) × (Option (List Int))) (fun x => (fun (b : List Int) (o : Option (List Int)) => ([encLI b, .fn (.func 40) [] [.el ((D.iface (tyO o) (inO o)))]] : List D)) x.1 x.2) (fun x => (fun (b : List Int) (o : Option (List Int)) => ([] : List (Nm × OO))) x.1 x.2) (fun x => (fun (b : List Int) (o : Option (List Int)) => b.length ≤ 1099511627776 ∧ chLen o ≤ 1099511627776) x.1 x.2) (fun x => (fun (b : List Int) (o : Option (List Int)) => (dB (decide (0 ≤ indexBy (fun n => !hasC o n) 0 b)) : D)) x.1 x.2) (fun x => (fun (b : List Int) (o : Option (List Int)) => ([] : List (Nm × OO))) x.1 x.2)
@[simp] theorem c39_f : c39.f = 39 := rfl
@[simp] theorem c39_own : c39.own = false := rfl
theorem c39_inj : ∀ u_ v_ : (List Int) × (Option (List Int)), ((fun x => (fun (b : List Int) (o : Option (List Int)) => ([encLI b, .fn (.func 40) [] [.el ((D.iface (tyO o) (inO o)))]] : List D)) x.1 x.2) u_).map nz = ((fun x => (fun (b : List Int) (o : Option (List Int)) => ([encLI b, .fn (.func 40) [] [.el ((D.iface (tyO o) (inO o)))]] : List D)) x.1 x.2) v_).map nz → (fun x => (fun (b : List Int) (o : Option (List Int)) => ([] : List (Nm × OO))) x.1 x.2) u_ = (fun x => (fun (b : List Int) (o : Option (List Int)) => ([] : List (Nm × OO))) x.1 x.2) v_ → u_ = v_ := by
  intro u_ v_ h h2_
  obtain ⟨b, o⟩ := u_
  obtain ⟨b', o'⟩ := v_
  simp [nz_lit, nz1_lit, nz_agg, nz_sl, nz1_sl, nz_sx, nz_el, nz1_el, nz_own, nz1_own, nz_ptr, nz_fn, nz_iface] at h h2_
  first | (simp [h, h2_]; done) | (obtain ⟨h3_, h4_⟩ := List.append_inj h2_ h.1; simp_all; done) | simp_all | grind
@[simp] theorem c39_fn (b : List Int) (o : Option (List Int)) : c39.fn ([(.sl false 1 (.lit (.int .i64 0)) (ML dI b)), .fn (.func 40) [] [.el ((D.iface (tyO o) (inO o)))]]) ([]) = some (b.length ≤ 1099511627776 ∧ chLen o ≤ 1099511627776, dB (decide (0 ≤ indexBy (fun n => !hasC o n) 0 b)), []) :=
  mkCon_fn c39_inj ((b, o) : (List Int) × (Option (List Int))) rfl rfl
theorem c39_pc (b : List Int) (o : Option (List Int)) (hpre : b.length ≤ 1099511627776 ∧ chLen o ≤ 1099511627776) : PCo Try.prog 39 ([encLI b, .fn (.func 40) [] [.el ((D.iface (tyO o) (inO o)))]]) (Tab.of ([])) (dB (decide (0 ≤ indexBy (fun n => !hasC o n) 0 b))) (Tab.of ([])) := by
  refine pco_of_run [] (E := ⟨[c47], []⟩) (m := false) (base := 0) (Env.ok_cons c47_ok Env.ok_nil) G_ok mix 300 6 Try.func39 (by kernel_rfl) rfl (by kernel_rfl) (by kernel_rfl) rfl ?_
  obtain ⟨hp1, hp2⟩ := hpre
  obtain _ | a := o
  · simp [Try.f39, tyO_none, inO_none]
    all_goals first | done | omega | trace_state
  · simp at hp2
    simp [Try.f39, tyO_some, inO_some]
    all_goals first | done | omega | trace_state
theorem c39_ok : c39.ok Try.prog := mkCon_ok fun ⟨b, o⟩ hpre => c39_pc b o hpre
@[simp] theorem cfo_E {b : List Int} : c39.fn [.sl false 1 (.lit (.int .i64 0)) (ML dI b), .fn (.func 40) [] [.el (.iface 65 (.agg []))]] [] = some (b.length ≤ 1099511627776 ∧ 0 ≤ 1099511627776, dB (decide (0 ≤ indexBy (fun n => !hasC none n) 0 b)), []) := c39_fn b none
@[simp] theorem cfo_O {b a : List Int} : c39.fn [.sl false 1 (.lit (.int .i64 0)) (ML dI b), .fn (.func 40) [] [.el (.iface 51 (.sl false 1 (.lit (.int .i64 0)) (ML dI a)))]] [] = some (b.length ≤ 1099511627776 ∧ a.length ≤ 1099511627776, dB (decide (0 ≤ indexBy (fun n => !hasC (some a) n) 0 b)), []) := c39_fn b (some a)
/-- loop.example/g03007/impl.hasAllOf -/
noncomputable def c24 : Con := mkCon 24 false (α := (Option (List Int)) × (Option (List Int))) (fun x => (fun (o : Option (List Int)) (q : Option (List Int)) => ([(D.iface (tyO o) (inO o)), (D.iface (tyO q) (inO q))] : List D)) x.1 x.2) (fun x => (fun (o : Option (List Int)) (q : Option (List Int)) => ([] : List (Nm × OO))) x.1 x.2) (fun x => (fun (o : Option (List Int)) (q : Option (List Int)) => chLen o ≤ 1099511627776 ∧ chLen q ≤ 1099511627776) x.1 x.2) (fun x => (fun (o : Option (List Int)) (q : Option (List Int)) => (dB (hasAll o q) : D)) x.1 x.2) (fun x => (fun (o : Option (List Int)) (q : Option (List Int)) => ([] : List (Nm × OO))) x.1 x.2)
@[simp] theorem c24_f : c24.f = 24 := rfl
@[simp] theorem c24_own : c24.own = false := rfl
theorem c24_inj : ∀ u_ v_ : (Option (List Int)) × (Option (List Int)), ((fun x => (fun (o : Option (List Int)) (q : Option (List Int)) => ([(D.iface (tyO o) (inO o)), (D.iface (tyO q) (inO q))] : List D)) x.1 x.2) u_).map nz = ((fun x => (fun (o : Option (List Int)) (q : Option (List Int)) => ([(D.iface (tyO o) (inO o)), (D.iface (tyO q) (inO q))] : List D)) x.1 x.2) v_).map nz → (fun x => (fun (o : Option (List Int)) (q : Option (List Int)) => ([] : List (Nm × OO))) x.1 x.2) u_ = (fun x => (fun (o : Option (List Int)) (q : Option (List Int)) => ([] : List (Nm × OO))) x.1 x.2) v_ → u_ = v_ := by
  intro u_ v_ h h2_
  obtain ⟨o, q⟩ := u_
  obtain ⟨o', q'⟩ := v_
  simp [nz_lit, nz1_lit, nz_agg, nz_sl, nz1_sl, nz_sx, nz_el, nz1_el, nz_own, nz1_own, nz_ptr, nz_fn, nz_iface] at h h2_
  first | (simp [h, h2_]; done) | (obtain ⟨h3_, h4_⟩ := List.append_inj h2_ h.1; simp_all; done) | simp_all | grind
@[simp] theorem c24_fn (o : Option (List Int)) (q : Option (List Int)) : c24.fn ([(D.iface (tyO o) (inO o)), (D.iface (tyO q) (inO q))]) ([]) = some (chLen o ≤ 1099511627776 ∧ chLen q ≤ 1099511627776, dB (hasAll o q), []) :=
  mkCon_fn c24_inj ((o, q) : (Option (List Int)) × (Option (List Int))) rfl rfl
theorem c24_pc (o : Option (List Int)) (q : Option (List Int)) (hpre : chLen o ≤ 1099511627776 ∧ chLen q ≤ 1099511627776) : PCo Try.prog 24 ([(D.iface (tyO o) (inO o)), (D.iface (tyO q) (inO q))]) (Tab.of ([])) (dB (hasAll o q)) (Tab.of ([])) := by
  refine pco_of_run [] (E := ⟨[c39], []⟩) (m := false) (base := 0) (Env.ok_cons c39_ok Env.ok_nil) G_ok mix 300 6 Try.func24 (by kernel_rfl) rfl (by kernel_rfl) (by kernel_rfl) rfl ?_
  obtain ⟨hp1, hp2⟩ := hpre
  obtain _ | a := o <;> obtain _ | b := q <;> simp at hp1 hp2
  · simp [Try.f24, tyO_none, inO_none, hasAll_none]
  · simp [Try.f24, tyO_none, inO_none, tyO_some, inO_some, hasAll_some]
    all_goals first | done | omega | trace_state
  · simp [Try.f24, tyO_none, inO_none, tyO_some, inO_some, hasAll_none]
    all_goals first | done | omega | trace_state
  · simp [Try.f24, tyO_some, inO_some, hasAll_some]
    all_goals first | done | omega | trace_state
theorem c24_ok : c24.ok Try.prog := mkCon_ok fun ⟨o, q⟩ hpre => c24_pc o q hpre
theorem chOf_or (l : List Int) : chOf l = none ∨ chOf l = some l := by
  by_cases h : l = []
  · exact Or.inl (by simp [chOf, h])
  · exact Or.inr (by simp [chOf, h])
@[simp] theorem hao_EE : c24.fn [.iface 65 (.agg []), .iface 65 (.agg [])] [] = some (0 ≤ 1099511627776 ∧ 0 ≤ 1099511627776, dB (hasAll none none), []) := c24_fn none none
@[simp] theorem hao_EO {b : List Int} : c24.fn [.iface 65 (.agg []), .iface 51 (.sl false 1 (.lit (.int .i64 0)) (ML dI b))] [] = some (0 ≤ 1099511627776 ∧ b.length ≤ 1099511627776, dB (hasAll none (some b)), []) := c24_fn none (some b)
@[simp] theorem hao_OE {a : List Int} : c24.fn [.iface 51 (.sl false 1 (.lit (.int .i64 0)) (ML dI a)), .iface 65 (.agg [])] [] = some (a.length ≤ 1099511627776 ∧ 0 ≤ 1099511627776, dB (hasAll (some a) none), []) := c24_fn (some a) none
@[simp] theorem hao_OO {a b : List Int} : c24.fn [.iface 51 (.sl false 1 (.lit (.int .i64 0)) (ML dI a)), .iface 51 (.sl false 1 (.lit (.int .i64 0)) (ML dI b))] [] = some (a.length ≤ 1099511627776 ∧ b.length ≤ 1099511627776, dB (hasAll (some a) (some b)), []) := c24_fn (some a) (some b)
end Go.Proofs.Ytlnllkffifeggaa
