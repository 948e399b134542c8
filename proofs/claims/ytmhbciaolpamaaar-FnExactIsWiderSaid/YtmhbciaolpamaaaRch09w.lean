/- Contracts of the functions that the laws run. -/
import Derived.Test.YtmhbciaolpamaaaRch08
import Derived.Test.YtmhbciaolpamaaaREngB
namespace Go.Proofs.YtmhbciaolpamaaaR
open Go Go.Eng
set_option linter.unusedSimpArgs false
set_option linter.unusedVariables false
set_option maxRecDepth 10000
set_option maxHeartbeats 1000000
def tyO : Option (List Int) → Nat
  | none => 251
  | some _ => 248
def inO : Option (List Int) → D
  | none => .agg []
  | some l => encLI l
theorem inO_none : inO none = .agg [] := rfl
theorem inO_some {l : List Int} : inO (some l) = encLI l := rfl
theorem chD_none : (D.iface (tyO none) (inO none)) = .iface 251 (.agg []) := rfl
theorem chD_some {l : List Int} : (D.iface (tyO (some l)) (inO (some l))) = .iface 248 (encLI l) := rfl
theorem tyO_none : tyO none = 251 := rfl
theorem tyO_some {l : List Int} : tyO (some l) = 248 := rfl
@[simp] theorem chD_inj {a b : Option (List Int)} : (tyO a = tyO b ∧ inO a = inO b) ↔ a = b := by
  refine ⟨fun h => ?_, fun h => by rw [h]; exact ⟨rfl, rfl⟩⟩
  obtain ⟨h1, h⟩ := h
  obtain _ | a := a <;> obtain _ | b := b
  · rfl
  · rw [tyO_none, tyO_some] at h1; simp at h1
  · rw [tyO_none, tyO_some] at h1; simp at h1
  · rw [inO_some, inO_some] at h; simpa using h
@[simp] theorem pureD_inO (o : Option (List Int)) : pureD (inO o) = true := by
  obtain _ | a := o
  · rfl
  · simp [inO_some]
@[simp high] theorem lendD_inO (T : Tab) (k : Nat) (o : Option (List Int)) : lendD T (k + 1) (inO o) = inO o := by
  obtain _ | a := o
  · rfl
  · simp [inO_some, lendD]
@[simp high] theorem lendOk_inO (T : Tab) (k : Nat) (o : Option (List Int)) : lendOk T (k + 1) (inO o) = True := by
  obtain _ | a := o
  · simp [inO_none, lendOk]
  · simp [inO_some, lendOk]
def chLen : Option (List Int) → Nat
  | none => 0
  | some l => l.length
@[simp] theorem chLen_none : chLen none = 0 := rfl
@[simp] theorem chLen_some {l} : chLen (some l) = l.length := rfl
def hasC : Option (List Int) → Int → Bool
  | none, _ => true
  | some l, n => decide (n ∈ l)
@[simp] theorem hasC_none {n} : hasC none n = true := rfl
theorem hasC_some {l n} : hasC (some l) n = decide (n ∈ l) := rfl
def hasAll (o : Option (List Int)) : Option (List Int) → Bool
  | none => decide (o = none)
  | some b => !(decide (0 ≤ indexBy (fun n => !hasC o n) 0 b))
theorem hasAll_none {o} : hasAll o none = decide (o = none) := rfl
theorem hasAll_some {o b} : hasAll o (some b) = !(decide (0 ≤ indexBy (fun n => !hasC o n) 0 b)) := rfl
theorem indexBy_any9 {w : Int → Bool} : ∀ (l : List Int) (i : Int), 0 ≤ i → (0 ≤ indexBy w i l ↔ l.any w = true)
  | [], i, _ => by simp [indexBy]
  | x :: r, i, hi => by
    have := indexBy_any9 (w := w) r (i + 1) (by omega)
    by_cases hx : w x = true
    · simp [indexBy, hx, hi]
    · simp [indexBy, hx, this]
def chOf (l : List Int) : Option (List Int) := if l = [] then none else some l
@[simp] theorem chLen_chOf (l : List Int) : chLen (chOf l) = l.length := by
  by_cases h : l = [] <;> simp [chOf, h]
def wid (a b : List Int) : Bool := decide (a = []) || (!decide (b = []) && b.all fun n => decide (n ∈ a))
theorem hasAll_wid (a b : List Int) : hasAll (chOf a) (chOf b) = wid a b := by
  by_cases hb : b = []
  · by_cases ha : a = [] <;> simp [chOf, hb, ha, hasAll_none, wid]
  · by_cases ha : a = []
    · have h := indexBy_any9 (w := fun n => !hasC none n) b 0 (by omega)
      simp [chOf, hb, ha, hasAll_some, wid]
      simp at h
      exact h
    · have h := indexBy_any9 (w := fun n => !hasC (some a) n) b 0 (by omega)
      simp [chOf, hb, ha, hasAll_some, wid]
      rw [Bool.eq_iff_iff]
      simp
      have h2 : indexBy (fun n => !hasC (some a) n) 0 b < 0 ↔ ¬ (0 ≤ indexBy (fun n => !hasC (some a) n) 0 b) := by omega
      first | rw [h2, h] | rw [h]
      simp [hasC_some]
/-- slices.Index[loop.example/g03007/impl.onl -/
noncomputable def c287 : Con := mkCon 287 false (α := (List Int) × Int) (fun x => (fun (l : List Int) (n : Int) => [encLI l, dI n]) x.1 x.2) (fun _ => []) (fun x => (fun (l : List Int) (n : Int) => l.length ≤ 1099511627776) x.1 x.2) (fun x => (fun (l : List Int) (n : Int) => (dI (indexBy (wantN (fun x => x) n) 0 l) : D)) x.1 x.2) (fun x => (fun (l : List Int) (n : Int) => []) x.1 x.2)
@[simp] theorem c287_f : c287.f = 287 := rfl
@[simp] theorem c287_own : c287.own = false := rfl
theorem c287_inj : ∀ u_ v_ : (List Int) × Int, ((fun x => (fun (l : List Int) (n : Int) => [encLI l, dI n]) x.1 x.2) u_).map nz = ((fun x => (fun (l : List Int) (n : Int) => [encLI l, dI n]) x.1 x.2) v_).map nz → u_ = v_ := by
  intro u_ v_ h
  obtain ⟨l, n⟩ := u_
  obtain ⟨l', n'⟩ := v_
  simp [nz_lit, nz1_lit, nz_agg, nz_sl, nz1_sl, encLI] at h
  first | (simp [h]; done) | (obtain ⟨⟩ := h; simp_all; done) | simp_all
@[simp] theorem c287_fn (l : List Int) (n : Int) : c287.fn [.sl false 1 (.lit (.int .i64 0)) (ML dI l), .lit (.int .i64 n)] [] = some ((fun (l : List Int) (n : Int) => l.length ≤ 1099511627776) l n, (fun (l : List Int) (n : Int) => (dI (indexBy (wantN (fun x => x) n) 0 l) : D)) l n, (fun (l : List Int) (n : Int) => []) l n) :=
  mkCon_fn (fun x y h _ => c287_inj x y h) ((l, n) : (List Int) × Int) (by simp [nz, nz1, ML_nil, encLI]) rfl
@[simp] theorem c287_fn1 (s_l : Nat) (z_l : D) (n : Int) : c287.fn [.sl false s_l z_l [], .lit (.int .i64 n)] [] = some ((fun (l : List Int) (n : Int) => l.length ≤ 1099511627776) [] n, (fun (l : List Int) (n : Int) => (dI (indexBy (wantN (fun x => x) n) 0 l) : D)) [] n, (fun (l : List Int) (n : Int) => []) [] n) :=
  mkCon_fn (fun x y h _ => c287_inj x y h) (([], n) : (List Int) × Int) (by simp [nz, nz1, ML_nil, encLI]) rfl
theorem c287_pc (l : List Int) (n : Int) (hpre : l.length ≤ 1099511627776) : PCo Try.prog 287 [encLI l, dI n] (Tab.of []) (dI (indexBy (wantN (fun x => x) n) 0 l)) (Tab.of []) := by
  refine pco_of_run [] (E := ⟨[], []⟩) (m := false) (base := 0) Env.ok_nil G_ok mix 300 6 Try.func287 (by kernel_rfl) rfl (by kernel_rfl) (by kernel_rfl) rfl ?_
  simp [Try.f287]
  refine loop_inv (fun p : Nat => p ≤ l.length ∧ indexBy (wantN (fun x => x) n) 0 l = indexBy (wantN (fun x => x) n) p (l.drop p)) (fun p => [(0, encLI l), (1, dI n), (7, dI l.length), (8, dI p)]) (fun _ => []) 1 (fun p => l.length - p) 0 400 (by simp) (by simp) (by simp) ?_
  intro p ⟨hp, hi⟩
  simp
  refine ⟨fun hlt => ?_, fun hge => ?_⟩
  · rw [indexBy_at (d := 0) hlt] at hi; simp only [wantN, decide_eq_true_eq] at hi
    repeat' (first | omega | refine And.intro ?_ ?_ | intro _)
    all_goals first | exact Again.mk (p + 1) ⟨by omega, by rw [hi]; grind⟩ (by simp) (by first | omega | (simp; omega)) | (rw [hi]; grind)
  · rw [hi, indexBy_end hge]
theorem c287_ok : c287.ok Try.prog := mkCon_ok fun ⟨l, n⟩ hpre => c287_pc l n hpre
/-- slices.Contains[loop.example/g03007/impl.onl -/
noncomputable def c286 : Con := mkCon 286 false (α := (List Int) × Int) (fun x => (fun (l : List Int) (n : Int) => [encLI l, dI n]) x.1 x.2) (fun _ => []) (fun x => (fun (l : List Int) (n : Int) => l.length ≤ 1099511627776) x.1 x.2) (fun x => (fun (l : List Int) (n : Int) => (dB (decide (n ∈ l)) : D)) x.1 x.2) (fun x => (fun (l : List Int) (n : Int) => []) x.1 x.2)
@[simp] theorem c286_f : c286.f = 286 := rfl
@[simp] theorem c286_own : c286.own = false := rfl
theorem c286_inj : ∀ u_ v_ : (List Int) × Int, ((fun x => (fun (l : List Int) (n : Int) => [encLI l, dI n]) x.1 x.2) u_).map nz = ((fun x => (fun (l : List Int) (n : Int) => [encLI l, dI n]) x.1 x.2) v_).map nz → u_ = v_ := by
  intro u_ v_ h
  obtain ⟨l, n⟩ := u_
  obtain ⟨l', n'⟩ := v_
  simp [nz_lit, nz1_lit, nz_agg, nz_sl, nz1_sl, encLI] at h
  first | (simp [h]; done) | (obtain ⟨⟩ := h; simp_all; done) | simp_all
@[simp] theorem c286_fn (l : List Int) (n : Int) : c286.fn [.sl false 1 (.lit (.int .i64 0)) (ML dI l), .lit (.int .i64 n)] [] = some ((fun (l : List Int) (n : Int) => l.length ≤ 1099511627776) l n, (fun (l : List Int) (n : Int) => (dB (decide (n ∈ l)) : D)) l n, (fun (l : List Int) (n : Int) => []) l n) :=
  mkCon_fn (fun x y h _ => c286_inj x y h) ((l, n) : (List Int) × Int) (by simp [nz, nz1, ML_nil, encLI]) rfl
@[simp] theorem c286_fn1 (s_l : Nat) (z_l : D) (n : Int) : c286.fn [.sl false s_l z_l [], .lit (.int .i64 n)] [] = some ((fun (l : List Int) (n : Int) => l.length ≤ 1099511627776) [] n, (fun (l : List Int) (n : Int) => (dB (decide (n ∈ l)) : D)) [] n, (fun (l : List Int) (n : Int) => []) [] n) :=
  mkCon_fn (fun x y h _ => c286_inj x y h) (([], n) : (List Int) × Int) (by simp [nz, nz1, ML_nil, encLI]) rfl
theorem c286_pc (l : List Int) (n : Int) (hpre : l.length ≤ 1099511627776) : PCo Try.prog 286 [encLI l, dI n] (Tab.of []) (dB (decide (n ∈ l))) (Tab.of []) := by
  refine pco_of_run [] (E := ⟨[c287], []⟩) (m := false) (base := 0) (Env.ok_cons c287_ok Env.ok_nil) G_ok mix 300 6 Try.func286 (by kernel_rfl) rfl (by kernel_rfl) (by kernel_rfl) rfl ?_
  simp [Try.f286]
  refine ⟨hpre, ?_⟩
  exact indexBy_mem l 0 (by omega)
theorem c286_ok : c286.ok Try.prog := mkCon_ok fun ⟨l, n⟩ hpre => c286_pc l n hpre
/-- (loop.example/g03007/impl.only).has -/
noncomputable def c285 : Con := mkCon 285 false (α := (List Int) × Int) (fun x => (fun (l : List Int) (n : Int) => [encLI l, dI n]) x.1 x.2) (fun _ => []) (fun x => (fun (l : List Int) (n : Int) => l.length ≤ 1099511627776) x.1 x.2) (fun x => (fun (l : List Int) (n : Int) => (dB (decide (n ∈ l)) : D)) x.1 x.2) (fun x => (fun (l : List Int) (n : Int) => []) x.1 x.2)
@[simp] theorem c285_f : c285.f = 285 := rfl
@[simp] theorem c285_own : c285.own = false := rfl
theorem c285_inj : ∀ u_ v_ : (List Int) × Int, ((fun x => (fun (l : List Int) (n : Int) => [encLI l, dI n]) x.1 x.2) u_).map nz = ((fun x => (fun (l : List Int) (n : Int) => [encLI l, dI n]) x.1 x.2) v_).map nz → u_ = v_ := by
  intro u_ v_ h
  obtain ⟨l, n⟩ := u_
  obtain ⟨l', n'⟩ := v_
  simp [nz_lit, nz1_lit, nz_agg, nz_sl, nz1_sl, encLI] at h
  first | (simp [h]; done) | (obtain ⟨⟩ := h; simp_all; done) | simp_all
@[simp] theorem c285_fn (l : List Int) (n : Int) : c285.fn [.sl false 1 (.lit (.int .i64 0)) (ML dI l), .lit (.int .i64 n)] [] = some ((fun (l : List Int) (n : Int) => l.length ≤ 1099511627776) l n, (fun (l : List Int) (n : Int) => (dB (decide (n ∈ l)) : D)) l n, (fun (l : List Int) (n : Int) => []) l n) :=
  mkCon_fn (fun x y h _ => c285_inj x y h) ((l, n) : (List Int) × Int) (by simp [nz, nz1, ML_nil, encLI]) rfl
@[simp] theorem c285_fn1 (s_l : Nat) (z_l : D) (n : Int) : c285.fn [.sl false s_l z_l [], .lit (.int .i64 n)] [] = some ((fun (l : List Int) (n : Int) => l.length ≤ 1099511627776) [] n, (fun (l : List Int) (n : Int) => (dB (decide (n ∈ l)) : D)) [] n, (fun (l : List Int) (n : Int) => []) [] n) :=
  mkCon_fn (fun x y h _ => c285_inj x y h) (([], n) : (List Int) × Int) (by simp [nz, nz1, ML_nil, encLI]) rfl
theorem c285_pc (l : List Int) (n : Int) (hpre : l.length ≤ 1099511627776) : PCo Try.prog 285 [encLI l, dI n] (Tab.of []) (dB (decide (n ∈ l))) (Tab.of []) := by
  refine pco_of_run [] (E := ⟨[c286], []⟩) (m := false) (base := 0) (Env.ok_cons c286_ok Env.ok_nil) G_ok mix 300 6 Try.func285 (by kernel_rfl) rfl (by kernel_rfl) (by kernel_rfl) rfl ?_
  simp [Try.f285]
  exact hpre
theorem c285_ok : c285.ok Try.prog := mkCon_ok fun ⟨l, n⟩ hpre => c285_pc l n hpre
/-- (loop.example/g03007/impl.everything).has -/
noncomputable def c288 : Con := mkCon 288 false (α := Int) (fun x => (fun (n : Int) => ([.agg [], dI n] : List D)) x) (fun x => (fun (n : Int) => ([] : List (Nm × OO))) x) (fun x => (fun (n : Int) => True) x) (fun x => (fun (n : Int) => (dB true : D)) x) (fun x => (fun (n : Int) => ([] : List (Nm × OO))) x)
@[simp] theorem c288_f : c288.f = 288 := rfl
@[simp] theorem c288_own : c288.own = false := rfl
theorem c288_inj : ∀ u_ v_ : Int, ((fun x => (fun (n : Int) => ([.agg [], dI n] : List D)) x) u_).map nz = ((fun x => (fun (n : Int) => ([.agg [], dI n] : List D)) x) v_).map nz → (fun x => (fun (n : Int) => ([] : List (Nm × OO))) x) u_ = (fun x => (fun (n : Int) => ([] : List (Nm × OO))) x) v_ → u_ = v_ := by
  intro u_ v_ h h2_
  obtain n := u_
  obtain n' := v_
  simp [nz_lit, nz1_lit, nz_agg, nz_sl, nz1_sl, nz_sx, nz_el, nz1_el, nz_own, nz1_own, nz_ptr, nz_fn, nz_iface] at h h2_
  first | (simp [h, h2_]; done) | (obtain ⟨h3_, h4_⟩ := List.append_inj h2_ h.1; simp_all; done) | simp_all | grind
@[simp] theorem c288_fn (n : Int) : c288.fn ([.agg [], dI n]) ([]) = some (True, dB true, []) :=
  mkCon_fn c288_inj (n : Int) rfl rfl
theorem c288_pc (n : Int) : PCo Try.prog 288 ([.agg [], dI n]) (Tab.of ([])) (dB true) (Tab.of ([])) := by
  refine pco_of_run [] (E := ⟨[], []⟩) (m := false) (base := 0) Env.ok_nil G_ok mix 300 6 Try.func288 (by kernel_rfl) rfl (by kernel_rfl) (by kernel_rfl) rfl ?_
  simp [Try.f288]
  first | done | rfl
theorem c288_ok : c288.ok Try.prog := mkCon_ok fun n hpre => c288_pc n
/-- loop.example/g03007/impl.hasAllOf$1 -/
noncomputable def c203 : Con := mkCon 203 false (α := Int × (Option (List Int))) (fun x => (fun (n : Int) (o : Option (List Int)) => ([dI n, .el ((D.iface (tyO o) (inO o)))] : List D)) x.1 x.2) (fun x => (fun (n : Int) (o : Option (List Int)) => ([] : List (Nm × OO))) x.1 x.2) (fun x => (fun (n : Int) (o : Option (List Int)) => chLen o ≤ 1099511627776) x.1 x.2) (fun x => (fun (n : Int) (o : Option (List Int)) => (dB (!hasC o n) : D)) x.1 x.2) (fun x => (fun (n : Int) (o : Option (List Int)) => ([] : List (Nm × OO))) x.1 x.2)
@[simp] theorem c203_f : c203.f = 203 := rfl
@[simp] theorem c203_own : c203.own = false := rfl
theorem c203_inj : ∀ u_ v_ : Int × (Option (List Int)), ((fun x => (fun (n : Int) (o : Option (List Int)) => ([dI n, .el ((D.iface (tyO o) (inO o)))] : List D)) x.1 x.2) u_).map nz = ((fun x => (fun (n : Int) (o : Option (List Int)) => ([dI n, .el ((D.iface (tyO o) (inO o)))] : List D)) x.1 x.2) v_).map nz → (fun x => (fun (n : Int) (o : Option (List Int)) => ([] : List (Nm × OO))) x.1 x.2) u_ = (fun x => (fun (n : Int) (o : Option (List Int)) => ([] : List (Nm × OO))) x.1 x.2) v_ → u_ = v_ := by
  intro u_ v_ h h2_
  obtain ⟨n, o⟩ := u_
  obtain ⟨n', o'⟩ := v_
  simp [nz_lit, nz1_lit, nz_agg, nz_sl, nz1_sl, nz_sx, nz_el, nz1_el, nz_own, nz1_own, nz_ptr, nz_fn, nz_iface] at h h2_
  first | (simp [h, h2_]; done) | (obtain ⟨h3_, h4_⟩ := List.append_inj h2_ h.1; simp_all; done) | simp_all | grind
@[simp] theorem c203_fn (n : Int) (o : Option (List Int)) : c203.fn ([dI n, .el ((D.iface (tyO o) (inO o)))]) ([]) = some (chLen o ≤ 1099511627776, dB (!hasC o n), []) :=
  mkCon_fn c203_inj ((n, o) : Int × (Option (List Int))) rfl rfl
theorem c203_pc (n : Int) (o : Option (List Int)) (hpre : chLen o ≤ 1099511627776) : PCo Try.prog 203 ([dI n, .el ((D.iface (tyO o) (inO o)))]) (Tab.of ([])) (dB (!hasC o n)) (Tab.of ([])) := by
  refine pco_of_run [] (E := ⟨[c285, c288], [(248, "loop.example/g03007/impl.has", 285), (251, "loop.example/g03007/impl.has", 288)]⟩) (m := false) (base := 0) (Env.ok_cons c285_ok (Env.ok_cons c288_ok (Env.ok_me (meth_of (by kernel_rfl) (by kernel_rfl)) (Env.ok_me (meth_of (by kernel_rfl) (by kernel_rfl)) Env.ok_nil)))) G_ok mix 300 6 Try.func203 (by kernel_rfl) rfl (by kernel_rfl) (by kernel_rfl) rfl ?_
  obtain _ | a := o
  · simp [Try.f203, tyO_none, inO_none]
  · simp [Try.f203, tyO_some, inO_some, hasC_some]
    first | done | exact hpre | (simp at hpre; exact hpre)
theorem c203_ok : c203.ok Try.prog := mkCon_ok fun ⟨n, o⟩ hpre => c203_pc n o hpre
@[simp] theorem hasAllOf1_E {n : Int} : c203.fn [dI n, .el (.iface 251 (.agg []))] [] = some (0 ≤ 1099511627776, dB false, []) := c203_fn n none
@[simp] theorem hasAllOf1_O {n : Int} {a : List Int} : c203.fn [dI n, .el (.iface 248 (.sl false 1 (.lit (.int .i64 0)) (ML dI a)))] [] = some (a.length ≤ 1099511627776, dB (!hasC (some a) n), []) := c203_fn n (some a)
/-- slices.IndexFunc[loop.example/g03007/impl.onl -/
noncomputable def c228 : Con := mkCon 228 false (α := (List Int) × (Option (List Int))) (fun x => (fun (b : List Int) (o : Option (List Int)) => ([encLI b, .fn (.func 203) [] [.el ((D.iface (tyO o) (inO o)))]] : List D)) x.1 x.2) (fun x => (fun (b : List Int) (o : Option (List Int)) => ([] : List (Nm × OO))) x.1 x.2) (fun x => (fun (b : List Int) (o : Option (List Int)) => b.length ≤ 1099511627776 ∧ chLen o ≤ 1099511627776) x.1 x.2) (fun x => (fun (b : List Int) (o : Option (List Int)) => (dI (indexBy (fun n => !hasC o n) 0 b) : D)) x.1 x.2) (fun x => (fun (b : List Int) (o : Option (List Int)) => ([] : List (Nm × OO))) x.1 x.2)
@[simp] theorem c228_f : c228.f = 228 := rfl
@[simp] theorem c228_own : c228.own = false := rfl
theorem c228_inj : ∀ u_ v_ : (List Int) × (Option (List Int)), ((fun x => (fun (b : List Int) (o : Option (List Int)) => ([encLI b, .fn (.func 203) [] [.el ((D.iface (tyO o) (inO o)))]] : List D)) x.1 x.2) u_).map nz = ((fun x => (fun (b : List Int) (o : Option (List Int)) => ([encLI b, .fn (.func 203) [] [.el ((D.iface (tyO o) (inO o)))]] : List D)) x.1 x.2) v_).map nz → (fun x => (fun (b : List Int) (o : Option (List Int)) => ([] : List (Nm × OO))) x.1 x.2) u_ = (fun x => (fun (b : List Int) (o : Option (List Int)) => ([] : List (Nm × OO))) x.1 x.2) v_ → u_ = v_ := by
  intro u_ v_ h h2_
  obtain ⟨b, o⟩ := u_
  obtain ⟨b', o'⟩ := v_
  simp [nz_lit, nz1_lit, nz_agg, nz_sl, nz1_sl, nz_sx, nz_el, nz1_el, nz_own, nz1_own, nz_ptr, nz_fn, nz_iface] at h h2_
  first | (simp [h, h2_]; done) | (obtain ⟨h3_, h4_⟩ := List.append_inj h2_ h.1; simp_all; done) | simp_all | grind
@[simp] theorem c228_fn (b : List Int) (o : Option (List Int)) : c228.fn ([(.sl false 1 (.lit (.int .i64 0)) (ML dI b)), .fn (.func 203) [] [.el ((D.iface (tyO o) (inO o)))]]) ([]) = some (b.length ≤ 1099511627776 ∧ chLen o ≤ 1099511627776, dI (indexBy (fun n => !hasC o n) 0 b), []) :=
  mkCon_fn c228_inj ((b, o) : (List Int) × (Option (List Int))) rfl rfl
theorem c228_pc (b : List Int) (o : Option (List Int)) (hpre : b.length ≤ 1099511627776 ∧ chLen o ≤ 1099511627776) : PCo Try.prog 228 ([encLI b, .fn (.func 203) [] [.el ((D.iface (tyO o) (inO o)))]]) (Tab.of ([])) (dI (indexBy (fun n => !hasC o n) 0 b)) (Tab.of ([])) := by
  refine pco_of_run [] (E := ⟨[c203], []⟩) (m := false) (base := 0) (Env.ok_cons c203_ok Env.ok_nil) G_ok mix 300 6 Try.func228 (by kernel_rfl) rfl (by kernel_rfl) (by kernel_rfl) rfl ?_
  obtain ⟨hp1, hp2⟩ := hpre
  obtain _ | a := o
  · simp [Try.f228, tyO_none, inO_none]
    refine loop_inv (fun p : Nat => p ≤ b.length ∧ indexBy (fun n => !hasC none n) 0 b = indexBy (fun n => !hasC none n) p (b.drop p)) (fun p => [(0, encLI b), (1, .fn (.func 203) [] [.el (.iface 251 (.agg []))]), (7, dI b.length), (8, dI p)]) (fun _ => []) 1 (fun p => b.length - p) 0 400 (by simp) (by simp) (by simp) ?_
    intro p ⟨hp, hi⟩
    simp
    simp at hi
    refine ⟨fun hlt => ?_, fun hge => ?_⟩
    · rw [indexBy_at (d := 0) hlt] at hi; simp at hi
      repeat' (first | omega | refine And.intro ?_ ?_ | intro _)
      all_goals first | exact Again.mk (p + 1) ⟨by omega, by simpa using hi⟩ (by simp) (by first | omega | (simp; omega)) | (rw [hi]; grind)
    · rw [hi, indexBy_end hge]
  · simp [Try.f228, tyO_some, inO_some]
    simp at hp2
    refine loop_inv (fun p : Nat => p ≤ b.length ∧ indexBy (fun n => !hasC (some a) n) 0 b = indexBy (fun n => !hasC (some a) n) p (b.drop p)) (fun p => [(0, encLI b), (1, .fn (.func 203) [] [.el (.iface 248 (encLI a))]), (7, dI b.length), (8, dI p)]) (fun _ => []) 1 (fun p => b.length - p) 0 400 (by simp) (by simp) (by simp) ?_
    intro p ⟨hp, hi⟩
    simp
    refine ⟨fun hlt => ?_, fun hge => ?_⟩
    · rw [indexBy_at (d := 0) hlt] at hi
      refine ⟨⟨hlt, hp2⟩, fun hh => ?_, fun hh => ?_⟩
      · rw [hi]; simp [hh]
      · refine ⟨by omega, ?_⟩
        exact Again.mk (p + 1) ⟨by omega, by rw [hi]; simp [hh]⟩ (by simp) (by first | omega | (simp; omega))
    · rw [hi, indexBy_end hge]
theorem c228_ok : c228.ok Try.prog := mkCon_ok fun ⟨b, o⟩ hpre => c228_pc b o hpre
@[simp] theorem ixo_E {b : List Int} : c228.fn [.sl false 1 (.lit (.int .i64 0)) (ML dI b), .fn (.func 203) [] [.el (.iface 251 (.agg []))]] [] = some (b.length ≤ 1099511627776 ∧ 0 ≤ 1099511627776, dI (indexBy (fun n => !hasC none n) 0 b), []) := c228_fn b none
@[simp] theorem ixo_O {b a : List Int} : c228.fn [.sl false 1 (.lit (.int .i64 0)) (ML dI b), .fn (.func 203) [] [.el (.iface 248 (.sl false 1 (.lit (.int .i64 0)) (ML dI a)))]] [] = some (b.length ≤ 1099511627776 ∧ a.length ≤ 1099511627776, dI (indexBy (fun n => !hasC (some a) n) 0 b), []) := c228_fn b (some a)
/-- slices.ContainsFunc[loop.example/g03007/impl.onl -/
noncomputable def c202 : Con := mkCon 202 false (α := (List Int) × (Option (List Int))) (fun x => (fun (b : List Int) (o : Option (List Int)) => ([encLI b, .fn (.func 203) [] [.el ((D.iface (tyO o) (inO o)))]] : List D)) x.1 x.2) (fun x => (fun (b : List Int) (o : Option (List Int)) => ([] : List (Nm × OO))) x.1 x.2) (fun x => (fun (b : List Int) (o : Option (List Int)) => b.length ≤ 1099511627776 ∧ chLen o ≤ 1099511627776) x.1 x.2) (fun x => (fun (b : List Int) (o : Option (List Int)) => (dB (decide (0 ≤ indexBy (fun n => !hasC o n) 0 b)) : D)) x.1 x.2) (fun x => (fun (b : List Int) (o : Option (List Int)) => ([] : List (Nm × OO))) x.1 x.2)
@[simp] theorem c202_f : c202.f = 202 := rfl
@[simp] theorem c202_own : c202.own = false := rfl
theorem c202_inj : ∀ u_ v_ : (List Int) × (Option (List Int)), ((fun x => (fun (b : List Int) (o : Option (List Int)) => ([encLI b, .fn (.func 203) [] [.el ((D.iface (tyO o) (inO o)))]] : List D)) x.1 x.2) u_).map nz = ((fun x => (fun (b : List Int) (o : Option (List Int)) => ([encLI b, .fn (.func 203) [] [.el ((D.iface (tyO o) (inO o)))]] : List D)) x.1 x.2) v_).map nz → (fun x => (fun (b : List Int) (o : Option (List Int)) => ([] : List (Nm × OO))) x.1 x.2) u_ = (fun x => (fun (b : List Int) (o : Option (List Int)) => ([] : List (Nm × OO))) x.1 x.2) v_ → u_ = v_ := by
  intro u_ v_ h h2_
  obtain ⟨b, o⟩ := u_
  obtain ⟨b', o'⟩ := v_
  simp [nz_lit, nz1_lit, nz_agg, nz_sl, nz1_sl, nz_sx, nz_el, nz1_el, nz_own, nz1_own, nz_ptr, nz_fn, nz_iface] at h h2_
  first | (simp [h, h2_]; done) | (obtain ⟨h3_, h4_⟩ := List.append_inj h2_ h.1; simp_all; done) | simp_all | grind
@[simp] theorem c202_fn (b : List Int) (o : Option (List Int)) : c202.fn ([(.sl false 1 (.lit (.int .i64 0)) (ML dI b)), .fn (.func 203) [] [.el ((D.iface (tyO o) (inO o)))]]) ([]) = some (b.length ≤ 1099511627776 ∧ chLen o ≤ 1099511627776, dB (decide (0 ≤ indexBy (fun n => !hasC o n) 0 b)), []) :=
  mkCon_fn c202_inj ((b, o) : (List Int) × (Option (List Int))) rfl rfl
theorem c202_pc (b : List Int) (o : Option (List Int)) (hpre : b.length ≤ 1099511627776 ∧ chLen o ≤ 1099511627776) : PCo Try.prog 202 ([encLI b, .fn (.func 203) [] [.el ((D.iface (tyO o) (inO o)))]]) (Tab.of ([])) (dB (decide (0 ≤ indexBy (fun n => !hasC o n) 0 b))) (Tab.of ([])) := by
  refine pco_of_run [] (E := ⟨[c228], []⟩) (m := false) (base := 0) (Env.ok_cons c228_ok Env.ok_nil) G_ok mix 300 6 Try.func202 (by kernel_rfl) rfl (by kernel_rfl) (by kernel_rfl) rfl ?_
  obtain ⟨hp1, hp2⟩ := hpre
  obtain _ | a := o
  · simp [Try.f202, tyO_none, inO_none]
    all_goals first | done | omega | trace_state
  · simp at hp2
    simp [Try.f202, tyO_some, inO_some]
    all_goals first | done | omega | trace_state
theorem c202_ok : c202.ok Try.prog := mkCon_ok fun ⟨b, o⟩ hpre => c202_pc b o hpre
@[simp] theorem cfo_E {b : List Int} : c202.fn [.sl false 1 (.lit (.int .i64 0)) (ML dI b), .fn (.func 203) [] [.el (.iface 251 (.agg []))]] [] = some (b.length ≤ 1099511627776 ∧ 0 ≤ 1099511627776, dB (decide (0 ≤ indexBy (fun n => !hasC none n) 0 b)), []) := c202_fn b none
@[simp] theorem cfo_O {b a : List Int} : c202.fn [.sl false 1 (.lit (.int .i64 0)) (ML dI b), .fn (.func 203) [] [.el (.iface 248 (.sl false 1 (.lit (.int .i64 0)) (ML dI a)))]] [] = some (b.length ≤ 1099511627776 ∧ a.length ≤ 1099511627776, dB (decide (0 ≤ indexBy (fun n => !hasC (some a) n) 0 b)), []) := c202_fn b (some a)
/-- loop.example/g03007/impl.hasAllOf -/
noncomputable def c131 : Con := mkCon 131 false (α := (Option (List Int)) × (Option (List Int))) (fun x => (fun (o : Option (List Int)) (q : Option (List Int)) => ([(D.iface (tyO o) (inO o)), (D.iface (tyO q) (inO q))] : List D)) x.1 x.2) (fun x => (fun (o : Option (List Int)) (q : Option (List Int)) => ([] : List (Nm × OO))) x.1 x.2) (fun x => (fun (o : Option (List Int)) (q : Option (List Int)) => chLen o ≤ 1099511627776 ∧ chLen q ≤ 1099511627776) x.1 x.2) (fun x => (fun (o : Option (List Int)) (q : Option (List Int)) => (dB (hasAll o q) : D)) x.1 x.2) (fun x => (fun (o : Option (List Int)) (q : Option (List Int)) => ([] : List (Nm × OO))) x.1 x.2)
@[simp] theorem c131_f : c131.f = 131 := rfl
@[simp] theorem c131_own : c131.own = false := rfl
theorem c131_inj : ∀ u_ v_ : (Option (List Int)) × (Option (List Int)), ((fun x => (fun (o : Option (List Int)) (q : Option (List Int)) => ([(D.iface (tyO o) (inO o)), (D.iface (tyO q) (inO q))] : List D)) x.1 x.2) u_).map nz = ((fun x => (fun (o : Option (List Int)) (q : Option (List Int)) => ([(D.iface (tyO o) (inO o)), (D.iface (tyO q) (inO q))] : List D)) x.1 x.2) v_).map nz → (fun x => (fun (o : Option (List Int)) (q : Option (List Int)) => ([] : List (Nm × OO))) x.1 x.2) u_ = (fun x => (fun (o : Option (List Int)) (q : Option (List Int)) => ([] : List (Nm × OO))) x.1 x.2) v_ → u_ = v_ := by
  intro u_ v_ h h2_
  obtain ⟨o, q⟩ := u_
  obtain ⟨o', q'⟩ := v_
  simp [nz_lit, nz1_lit, nz_agg, nz_sl, nz1_sl, nz_sx, nz_el, nz1_el, nz_own, nz1_own, nz_ptr, nz_fn, nz_iface] at h h2_
  first | (simp [h, h2_]; done) | (obtain ⟨h3_, h4_⟩ := List.append_inj h2_ h.1; simp_all; done) | simp_all | grind
@[simp] theorem c131_fn (o : Option (List Int)) (q : Option (List Int)) : c131.fn ([(D.iface (tyO o) (inO o)), (D.iface (tyO q) (inO q))]) ([]) = some (chLen o ≤ 1099511627776 ∧ chLen q ≤ 1099511627776, dB (hasAll o q), []) :=
  mkCon_fn c131_inj ((o, q) : (Option (List Int)) × (Option (List Int))) rfl rfl
theorem c131_pc (o : Option (List Int)) (q : Option (List Int)) (hpre : chLen o ≤ 1099511627776 ∧ chLen q ≤ 1099511627776) : PCo Try.prog 131 ([(D.iface (tyO o) (inO o)), (D.iface (tyO q) (inO q))]) (Tab.of ([])) (dB (hasAll o q)) (Tab.of ([])) := by
  refine pco_of_run [] (E := ⟨[c202], []⟩) (m := false) (base := 0) (Env.ok_cons c202_ok Env.ok_nil) G_ok mix 300 6 Try.func131 (by kernel_rfl) rfl (by kernel_rfl) (by kernel_rfl) rfl ?_
  obtain ⟨hp1, hp2⟩ := hpre
  obtain _ | a := o <;> obtain _ | b := q <;> simp at hp1 hp2
  · simp [Try.f131, tyO_none, inO_none, hasAll_none]
  · simp [Try.f131, tyO_none, inO_none, tyO_some, inO_some, hasAll_some]
    all_goals first | done | omega | trace_state
  · simp [Try.f131, tyO_none, inO_none, tyO_some, inO_some, hasAll_none]
    all_goals first | done | omega | trace_state
  · simp [Try.f131, tyO_some, inO_some, hasAll_some]
    all_goals first | done | omega | trace_state
theorem c131_ok : c131.ok Try.prog := mkCon_ok fun ⟨o, q⟩ hpre => c131_pc o q hpre
/-- loop.example/g03007/impl.choiceOf -/
noncomputable def c132 : Con := mkCon 132 false (α := (List Int)) (fun x => (fun (l : List Int) => [encLI l]) x) (fun _ => []) (fun x => (fun (l : List Int) => True) x) (fun x => (fun (l : List Int) => ((D.iface (tyO (chOf l)) (inO (chOf l))) : D)) x) (fun x => (fun (l : List Int) => []) x)
@[simp] theorem c132_f : c132.f = 132 := rfl
@[simp] theorem c132_own : c132.own = false := rfl
theorem c132_inj : ∀ u_ v_ : (List Int), ((fun x => (fun (l : List Int) => [encLI l]) x) u_).map nz = ((fun x => (fun (l : List Int) => [encLI l]) x) v_).map nz → u_ = v_ := by
  intro u_ v_ h
  obtain l := u_
  obtain l' := v_
  simp [nz_lit, nz1_lit, nz_agg, nz_sl, nz1_sl, encLI] at h
  first | (simp [h]; done) | (obtain ⟨⟩ := h; simp_all; done) | simp_all
@[simp] theorem c132_fn (l : List Int) : c132.fn [.sl false 1 (.lit (.int .i64 0)) (ML dI l)] [] = some ((fun (l : List Int) => True) l, (fun (l : List Int) => ((D.iface (tyO (chOf l)) (inO (chOf l))) : D)) l, (fun (l : List Int) => []) l) :=
  mkCon_fn (fun x y h _ => c132_inj x y h) (l : (List Int)) (by simp [nz, nz1, ML_nil, encLI]) rfl
@[simp] theorem c132_fn1 (s_l : Nat) (z_l : D) : c132.fn [.sl false s_l z_l []] [] = some ((fun (l : List Int) => True) [], (fun (l : List Int) => ((D.iface (tyO (chOf l)) (inO (chOf l))) : D)) [], (fun (l : List Int) => []) []) :=
  mkCon_fn (fun x y h _ => c132_inj x y h) ([] : (List Int)) (by simp [nz, nz1, ML_nil, encLI]) rfl
theorem c132_pc (l : List Int) : PCo Try.prog 132 [encLI l] (Tab.of []) ((D.iface (tyO (chOf l)) (inO (chOf l)))) (Tab.of []) := by
  refine pco_of_run [] (E := ⟨[], []⟩) (m := false) (base := 0) Env.ok_nil G_ok mix 300 6 Try.func132 (by kernel_rfl) rfl (by kernel_rfl) (by kernel_rfl) rfl ?_
  by_cases h : l = []
  · subst h; simp [Try.f132, chOf, tyO_none, inO_none]
  · simp [Try.f132, chOf, h, tyO_some, inO_some]
theorem c132_ok : c132.ok Try.prog := mkCon_ok fun l hpre => c132_pc l
/-- loop.example/g03007/spec.l9Wider -/
noncomputable def c130 : Con := mkCon 130 false (α := (List Int) × (List Int)) (fun x => (fun (a : List Int) (b : List Int) => [encLI a, encLI b]) x.1 x.2) (fun _ => []) (fun x => (fun (a : List Int) (b : List Int) => a.length ≤ 1099511627776 ∧ b.length ≤ 1099511627776) x.1 x.2) (fun x => (fun (a : List Int) (b : List Int) => (dB (wid a b) : D)) x.1 x.2) (fun x => (fun (a : List Int) (b : List Int) => []) x.1 x.2)
@[simp] theorem c130_f : c130.f = 130 := rfl
@[simp] theorem c130_own : c130.own = false := rfl
theorem c130_inj : ∀ u_ v_ : (List Int) × (List Int), ((fun x => (fun (a : List Int) (b : List Int) => [encLI a, encLI b]) x.1 x.2) u_).map nz = ((fun x => (fun (a : List Int) (b : List Int) => [encLI a, encLI b]) x.1 x.2) v_).map nz → u_ = v_ := by
  intro u_ v_ h
  obtain ⟨a, b⟩ := u_
  obtain ⟨a', b'⟩ := v_
  simp [nz_lit, nz1_lit, nz_agg, nz_sl, nz1_sl, encLI] at h
  first | (simp [h]; done) | (obtain ⟨⟩ := h; simp_all; done) | simp_all
@[simp] theorem c130_fn (a : List Int) (b : List Int) : c130.fn [.sl false 1 (.lit (.int .i64 0)) (ML dI a), .sl false 1 (.lit (.int .i64 0)) (ML dI b)] [] = some ((fun (a : List Int) (b : List Int) => a.length ≤ 1099511627776 ∧ b.length ≤ 1099511627776) a b, (fun (a : List Int) (b : List Int) => (dB (wid a b) : D)) a b, (fun (a : List Int) (b : List Int) => []) a b) :=
  mkCon_fn (fun x y h _ => c130_inj x y h) ((a, b) : (List Int) × (List Int)) (by simp [nz, nz1, ML_nil, encLI]) rfl
@[simp] theorem c130_fn1 (s_a : Nat) (z_a : D) (b : List Int) : c130.fn [.sl false s_a z_a [], .sl false 1 (.lit (.int .i64 0)) (ML dI b)] [] = some ((fun (a : List Int) (b : List Int) => a.length ≤ 1099511627776 ∧ b.length ≤ 1099511627776) [] b, (fun (a : List Int) (b : List Int) => (dB (wid a b) : D)) [] b, (fun (a : List Int) (b : List Int) => []) [] b) :=
  mkCon_fn (fun x y h _ => c130_inj x y h) (([], b) : (List Int) × (List Int)) (by simp [nz, nz1, ML_nil, encLI]) rfl
@[simp] theorem c130_fn2 (a : List Int) (s_b : Nat) (z_b : D) : c130.fn [.sl false 1 (.lit (.int .i64 0)) (ML dI a), .sl false s_b z_b []] [] = some ((fun (a : List Int) (b : List Int) => a.length ≤ 1099511627776 ∧ b.length ≤ 1099511627776) a [], (fun (a : List Int) (b : List Int) => (dB (wid a b) : D)) a [], (fun (a : List Int) (b : List Int) => []) a []) :=
  mkCon_fn (fun x y h _ => c130_inj x y h) ((a, []) : (List Int) × (List Int)) (by simp [nz, nz1, ML_nil, encLI]) rfl
@[simp] theorem c130_fn3 (s_a : Nat) (z_a : D) (s_b : Nat) (z_b : D) : c130.fn [.sl false s_a z_a [], .sl false s_b z_b []] [] = some ((fun (a : List Int) (b : List Int) => a.length ≤ 1099511627776 ∧ b.length ≤ 1099511627776) [] [], (fun (a : List Int) (b : List Int) => (dB (wid a b) : D)) [] [], (fun (a : List Int) (b : List Int) => []) [] []) :=
  mkCon_fn (fun x y h _ => c130_inj x y h) (([], []) : (List Int) × (List Int)) (by simp [nz, nz1, ML_nil, encLI]) rfl
theorem c130_pc (a : List Int) (b : List Int) (hpre : a.length ≤ 1099511627776 ∧ b.length ≤ 1099511627776) : PCo Try.prog 130 [encLI a, encLI b] (Tab.of []) (dB (wid a b)) (Tab.of []) := by
  refine pco_of_run [] (E := ⟨[c201], []⟩) (m := false) (base := 0) (Env.ok_cons c201_ok Env.ok_nil) G_ok mix 300 6 Try.func130 (by kernel_rfl) rfl (by kernel_rfl) (by kernel_rfl) rfl ?_
  simp [Try.f130]
  refine ⟨fun h => by simp [wid, h], fun hne => ?_⟩
  refine loop_inv (fun p : Nat => p ≤ b.length ∧ (b.take p).all (fun n => decide (n ∈ a)) = true) (fun p => [(0, encLI a), (1, encLI b), (5, dI p)]) (fun _ => []) 1 (fun p => b.length - p) 0 400 (by simp) (by simp) (by simp) ?_
  intro p ⟨hp, hi⟩
  simp
  simp at hi
  refine ⟨fun hlt => ⟨⟨hlt, hpre.1⟩, fun hm => ⟨by omega, ?_⟩, fun hm => ?_⟩, fun hge => ?_⟩
  · refine Again.mk (p + 1) ⟨by omega, ?_⟩ (by simp) (by first | omega | (simp; omega))
    intro x hx
    rw [List.take_add_one] at hx
    simp at hx
    obtain hx | hx := hx
    · exact hi x hx
    · rw [hx] at hm; simpa using hm
  · have hx : b[p]?.getD 0 ∈ b := by simp [hlt]
    simp [wid, hne]
    exact fun _ => ⟨_, hx, hm⟩
  · have e : b.take p = b := List.take_of_length_le (by omega)
    rw [e] at hi
    rw [Bool.eq_iff_iff]
    simp [wid, hne, List.length_pos_iff]
    exact fun _ => hi
theorem c130_ok : c130.ok Try.prog := mkCon_ok fun ⟨a, b⟩ hpre => c130_pc a b hpre
theorem chOf_or (l : List Int) : chOf l = none ∨ chOf l = some l := by
  by_cases h : l = []
  · exact Or.inl (by simp [chOf, h])
  · exact Or.inr (by simp [chOf, h])
@[simp] theorem hao_EE : c131.fn [.iface 251 (.agg []), .iface 251 (.agg [])] [] = some (0 ≤ 1099511627776 ∧ 0 ≤ 1099511627776, dB (hasAll none none), []) := c131_fn none none
@[simp] theorem hao_EO {b : List Int} : c131.fn [.iface 251 (.agg []), .iface 248 (.sl false 1 (.lit (.int .i64 0)) (ML dI b))] [] = some (0 ≤ 1099511627776 ∧ b.length ≤ 1099511627776, dB (hasAll none (some b)), []) := c131_fn none (some b)
@[simp] theorem hao_OE {a : List Int} : c131.fn [.iface 248 (.sl false 1 (.lit (.int .i64 0)) (ML dI a)), .iface 251 (.agg [])] [] = some (a.length ≤ 1099511627776 ∧ 0 ≤ 1099511627776, dB (hasAll (some a) none), []) := c131_fn (some a) none
@[simp] theorem hao_OO {a b : List Int} : c131.fn [.iface 248 (.sl false 1 (.lit (.int .i64 0)) (ML dI a)), .iface 248 (.sl false 1 (.lit (.int .i64 0)) (ML dI b))] [] = some (a.length ≤ 1099511627776 ∧ b.length ≤ 1099511627776, dB (hasAll (some a) (some b)), []) := c131_fn (some a) (some b)
/-- loop.example/g03007/impl.IsWider -/
noncomputable def c60 : Con := mkCon 60 false (α := TReport × TReport) (fun x => (fun (a : TReport) (b : TReport) => [encTReport a, encTReport b]) x.1 x.2) (fun _ => []) (fun x => (fun (a : TReport) (b : TReport) => smR a ∧ smR b) x.1 x.2) (fun x => (fun (a : TReport) (b : TReport) => (dB (mIsReport a && mIsReport b && decide (a.Kind = b.Kind) && wid a.Colours b.Colours && decide (a.SizeLow ≤ b.SizeLow) && decide (b.SizeHigh ≤ a.SizeHigh) && wid a.Places b.Places && decide (a.Span.From ≤ b.Span.From)) : D)) x.1 x.2) (fun x => (fun (a : TReport) (b : TReport) => []) x.1 x.2)
@[simp] theorem c60_f : c60.f = 60 := rfl
@[simp] theorem c60_own : c60.own = false := rfl
theorem c60_inj : ∀ u_ v_ : TReport × TReport, ((fun x => (fun (a : TReport) (b : TReport) => [encTReport a, encTReport b]) x.1 x.2) u_).map nz = ((fun x => (fun (a : TReport) (b : TReport) => [encTReport a, encTReport b]) x.1 x.2) v_).map nz → u_ = v_ := by
  intro u_ v_ h
  obtain ⟨⟨a_Id, a_Kind, a_Colours, a_SizeLow, a_SizeHigh, a_Places, ⟨a_Span_From, a_Span_Until⟩⟩, ⟨b_Id, b_Kind, b_Colours, b_SizeLow, b_SizeHigh, b_Places, ⟨b_Span_From, b_Span_Until⟩⟩⟩ := u_
  obtain ⟨⟨a_Id', a_Kind', a_Colours', a_SizeLow', a_SizeHigh', a_Places', ⟨a_Span_From', a_Span_Until'⟩⟩, ⟨b_Id', b_Kind', b_Colours', b_SizeLow', b_SizeHigh', b_Places', ⟨b_Span_From', b_Span_Until'⟩⟩⟩ := v_
  simp [nz_lit, nz1_lit, nz_agg, nz_sl, nz1_sl, encLI, encTReport, encTSpan] at h
  first | (simp [h]; done) | (obtain ⟨⟩ := h; simp_all; done) | simp_all
@[simp] theorem c60_fn (a_Id : Int) (a_Kind : Int) (a_Colours : List Int) (a_SizeLow : Int) (a_SizeHigh : Int) (a_Places : List Int) (a_Span_From : Int) (a_Span_Until : Int) (b_Id : Int) (b_Kind : Int) (b_Colours : List Int) (b_SizeLow : Int) (b_SizeHigh : Int) (b_Places : List Int) (b_Span_From : Int) (b_Span_Until : Int) : c60.fn [.agg [.lit (.int .i64 a_Id), .lit (.int .i64 a_Kind), .sl false 1 (.lit (.int .i64 0)) (ML dI a_Colours), .lit (.int .i64 a_SizeLow), .lit (.int .i64 a_SizeHigh), .sl false 1 (.lit (.int .i64 0)) (ML dI a_Places), .lit (.int .i64 a_Span_From), .lit (.int .i64 a_Span_Until)], .agg [.lit (.int .i64 b_Id), .lit (.int .i64 b_Kind), .sl false 1 (.lit (.int .i64 0)) (ML dI b_Colours), .lit (.int .i64 b_SizeLow), .lit (.int .i64 b_SizeHigh), .sl false 1 (.lit (.int .i64 0)) (ML dI b_Places), .lit (.int .i64 b_Span_From), .lit (.int .i64 b_Span_Until)]] [] = some ((fun (a : TReport) (b : TReport) => smR a ∧ smR b) ⟨a_Id, a_Kind, a_Colours, a_SizeLow, a_SizeHigh, a_Places, ⟨a_Span_From, a_Span_Until⟩⟩ ⟨b_Id, b_Kind, b_Colours, b_SizeLow, b_SizeHigh, b_Places, ⟨b_Span_From, b_Span_Until⟩⟩, (fun (a : TReport) (b : TReport) => (dB (mIsReport a && mIsReport b && decide (a.Kind = b.Kind) && wid a.Colours b.Colours && decide (a.SizeLow ≤ b.SizeLow) && decide (b.SizeHigh ≤ a.SizeHigh) && wid a.Places b.Places && decide (a.Span.From ≤ b.Span.From)) : D)) ⟨a_Id, a_Kind, a_Colours, a_SizeLow, a_SizeHigh, a_Places, ⟨a_Span_From, a_Span_Until⟩⟩ ⟨b_Id, b_Kind, b_Colours, b_SizeLow, b_SizeHigh, b_Places, ⟨b_Span_From, b_Span_Until⟩⟩, (fun (a : TReport) (b : TReport) => []) ⟨a_Id, a_Kind, a_Colours, a_SizeLow, a_SizeHigh, a_Places, ⟨a_Span_From, a_Span_Until⟩⟩ ⟨b_Id, b_Kind, b_Colours, b_SizeLow, b_SizeHigh, b_Places, ⟨b_Span_From, b_Span_Until⟩⟩) :=
  mkCon_fn (fun x y h _ => c60_inj x y h) ((⟨a_Id, a_Kind, a_Colours, a_SizeLow, a_SizeHigh, a_Places, ⟨a_Span_From, a_Span_Until⟩⟩, ⟨b_Id, b_Kind, b_Colours, b_SizeLow, b_SizeHigh, b_Places, ⟨b_Span_From, b_Span_Until⟩⟩) : TReport × TReport) (by simp [nz, nz1, ML_nil, encLI, encTReport, encTSpan]) rfl
theorem c60_pc (a : TReport) (b : TReport) (hpre : smR a ∧ smR b) : PCo Try.prog 60 [encTReport a, encTReport b] (Tab.of []) (dB (mIsReport a && mIsReport b && decide (a.Kind = b.Kind) && wid a.Colours b.Colours && decide (a.SizeLow ≤ b.SizeLow) && decide (b.SizeHigh ≤ a.SizeHigh) && wid a.Places b.Places && decide (a.Span.From ≤ b.Span.From))) (Tab.of []) := by
  refine pco_of_run [1] (E := ⟨[c110, c131, c132], []⟩) (m := false) (base := 0) (Env.ok_cons c110_ok (Env.ok_cons c131_ok (Env.ok_cons c132_ok Env.ok_nil))) G_ok mix 300 6 Try.func60 (by kernel_rfl) rfl (by kernel_rfl) (by kernel_rfl) rfl ?_
  simp at hpre
  have w1 := hasAll_wid a.Colours b.Colours
  have w2 := hasAll_wid a.Places b.Places
  obtain h1 | h1 := chOf_or a.Colours
  all_goals obtain h2 | h2 := chOf_or b.Colours
  all_goals obtain h3 | h3 := chOf_or a.Places
  all_goals obtain h4 | h4 := chOf_or b.Places
  all_goals rw [h1, h2] at w1
  all_goals rw [h3, h4] at w2
  all_goals simp [Try.f60, hpre, h1, h2, h3, h4, tyO_none, inO_none, tyO_some, inO_some]
  all_goals rw [← w1, ← w2, Bool.eq_iff_iff]
  all_goals simp
theorem c60_ok : c60.ok Try.prog := mkCon_ok fun ⟨a, b⟩ hpre => c60_pc a b hpre
/-- loop.example/g03007/spec.IsWider -/
noncomputable def c59 : Con := mkCon 59 false (α := TReport × TReport) (fun x => (fun (a : TReport) (b : TReport) => [encTReport a, encTReport b]) x.1 x.2) (fun _ => []) (fun x => (fun (a : TReport) (b : TReport) => smR a ∧ smR b) x.1 x.2) (fun x => (fun (a : TReport) (b : TReport) => (dB (mIsReport a && mIsReport b && decide (a.Kind = b.Kind) && wid a.Colours b.Colours && decide (a.SizeLow ≤ b.SizeLow) && decide (b.SizeHigh ≤ a.SizeHigh) && wid a.Places b.Places && decide (a.Span.From ≤ b.Span.From)) : D)) x.1 x.2) (fun x => (fun (a : TReport) (b : TReport) => []) x.1 x.2)
@[simp] theorem c59_f : c59.f = 59 := rfl
@[simp] theorem c59_own : c59.own = false := rfl
theorem c59_inj : ∀ u_ v_ : TReport × TReport, ((fun x => (fun (a : TReport) (b : TReport) => [encTReport a, encTReport b]) x.1 x.2) u_).map nz = ((fun x => (fun (a : TReport) (b : TReport) => [encTReport a, encTReport b]) x.1 x.2) v_).map nz → u_ = v_ := by
  intro u_ v_ h
  obtain ⟨⟨a_Id, a_Kind, a_Colours, a_SizeLow, a_SizeHigh, a_Places, ⟨a_Span_From, a_Span_Until⟩⟩, ⟨b_Id, b_Kind, b_Colours, b_SizeLow, b_SizeHigh, b_Places, ⟨b_Span_From, b_Span_Until⟩⟩⟩ := u_
  obtain ⟨⟨a_Id', a_Kind', a_Colours', a_SizeLow', a_SizeHigh', a_Places', ⟨a_Span_From', a_Span_Until'⟩⟩, ⟨b_Id', b_Kind', b_Colours', b_SizeLow', b_SizeHigh', b_Places', ⟨b_Span_From', b_Span_Until'⟩⟩⟩ := v_
  simp [nz_lit, nz1_lit, nz_agg, nz_sl, nz1_sl, encLI, encTReport, encTSpan] at h
  first | (simp [h]; done) | (obtain ⟨⟩ := h; simp_all; done) | simp_all
@[simp] theorem c59_fn (a_Id : Int) (a_Kind : Int) (a_Colours : List Int) (a_SizeLow : Int) (a_SizeHigh : Int) (a_Places : List Int) (a_Span_From : Int) (a_Span_Until : Int) (b_Id : Int) (b_Kind : Int) (b_Colours : List Int) (b_SizeLow : Int) (b_SizeHigh : Int) (b_Places : List Int) (b_Span_From : Int) (b_Span_Until : Int) : c59.fn [.agg [.lit (.int .i64 a_Id), .lit (.int .i64 a_Kind), .sl false 1 (.lit (.int .i64 0)) (ML dI a_Colours), .lit (.int .i64 a_SizeLow), .lit (.int .i64 a_SizeHigh), .sl false 1 (.lit (.int .i64 0)) (ML dI a_Places), .lit (.int .i64 a_Span_From), .lit (.int .i64 a_Span_Until)], .agg [.lit (.int .i64 b_Id), .lit (.int .i64 b_Kind), .sl false 1 (.lit (.int .i64 0)) (ML dI b_Colours), .lit (.int .i64 b_SizeLow), .lit (.int .i64 b_SizeHigh), .sl false 1 (.lit (.int .i64 0)) (ML dI b_Places), .lit (.int .i64 b_Span_From), .lit (.int .i64 b_Span_Until)]] [] = some ((fun (a : TReport) (b : TReport) => smR a ∧ smR b) ⟨a_Id, a_Kind, a_Colours, a_SizeLow, a_SizeHigh, a_Places, ⟨a_Span_From, a_Span_Until⟩⟩ ⟨b_Id, b_Kind, b_Colours, b_SizeLow, b_SizeHigh, b_Places, ⟨b_Span_From, b_Span_Until⟩⟩, (fun (a : TReport) (b : TReport) => (dB (mIsReport a && mIsReport b && decide (a.Kind = b.Kind) && wid a.Colours b.Colours && decide (a.SizeLow ≤ b.SizeLow) && decide (b.SizeHigh ≤ a.SizeHigh) && wid a.Places b.Places && decide (a.Span.From ≤ b.Span.From)) : D)) ⟨a_Id, a_Kind, a_Colours, a_SizeLow, a_SizeHigh, a_Places, ⟨a_Span_From, a_Span_Until⟩⟩ ⟨b_Id, b_Kind, b_Colours, b_SizeLow, b_SizeHigh, b_Places, ⟨b_Span_From, b_Span_Until⟩⟩, (fun (a : TReport) (b : TReport) => []) ⟨a_Id, a_Kind, a_Colours, a_SizeLow, a_SizeHigh, a_Places, ⟨a_Span_From, a_Span_Until⟩⟩ ⟨b_Id, b_Kind, b_Colours, b_SizeLow, b_SizeHigh, b_Places, ⟨b_Span_From, b_Span_Until⟩⟩) :=
  mkCon_fn (fun x y h _ => c59_inj x y h) ((⟨a_Id, a_Kind, a_Colours, a_SizeLow, a_SizeHigh, a_Places, ⟨a_Span_From, a_Span_Until⟩⟩, ⟨b_Id, b_Kind, b_Colours, b_SizeLow, b_SizeHigh, b_Places, ⟨b_Span_From, b_Span_Until⟩⟩) : TReport × TReport) (by simp [nz, nz1, ML_nil, encLI, encTReport, encTSpan]) rfl
theorem c59_pc (a : TReport) (b : TReport) (hpre : smR a ∧ smR b) : PCo Try.prog 59 [encTReport a, encTReport b] (Tab.of []) (dB (mIsReport a && mIsReport b && decide (a.Kind = b.Kind) && wid a.Colours b.Colours && decide (a.SizeLow ≤ b.SizeLow) && decide (b.SizeHigh ≤ a.SizeHigh) && wid a.Places b.Places && decide (a.Span.From ≤ b.Span.From))) (Tab.of []) := by
  refine pco_of_run [] (E := ⟨[c107, c130], []⟩) (m := false) (base := 0) (Env.ok_cons c107_ok (Env.ok_cons c130_ok Env.ok_nil)) G_ok mix 300 6 Try.func59 (by kernel_rfl) rfl (by kernel_rfl) (by kernel_rfl) rfl ?_
  simp [Try.f59]
  simp at hpre
  simp [hpre]
  rw [Bool.eq_iff_iff]; simp
theorem c59_ok : c59.ok Try.prog := mkCon_ok fun ⟨a, b⟩ hpre => c59_pc a b hpre
/-- loop.example/g03007/laws.FnExactIsWider -/
theorem law11 (a : TReport) (wa : wfTReport a) (b : TReport) (wb : wfTReport b) : PCo Try.prog 11 [encTReport a, encTReport b] (Tab.of []) (dB true) (Tab.of []) := by
  obtain ⟨a_Id, a_Kind, a_Colours, a_SizeLow, a_SizeHigh, a_Places, ⟨a_Span_From, a_Span_Until⟩⟩ := a
  obtain ⟨b_Id, b_Kind, b_Colours, b_SizeLow, b_SizeHigh, b_Places, ⟨b_Span_From, b_Span_Until⟩⟩ := b
  refine pco_of_run [1000041] (E := ⟨[c39, c41, c43, c59, c60], []⟩) (m := false) (base := 0) (Env.ok_cons c39_ok (Env.ok_cons c41_ok (Env.ok_cons c43_ok (Env.ok_cons c59_ok (Env.ok_cons c60_ok Env.ok_nil))))) G_ok mix 400 6 Try.func11 (by kernel_rfl) rfl (by kernel_rfl) (by kernel_rfl) rfl ?_
  simp (config := {maxSteps := 3000000}) [Try.f11]
  have h1 := wfR_len wa
  have h2 := wfR_len wb
  simp at h1 h2
  refine ⟨h1, fun h => ?_⟩
  have hl := szR_len h
  simp at hl
  refine ⟨⟨h2, h, by omega⟩, fun h3 => ?_⟩
  have hm := szR_len h3
  simp at hm
  omega
theorem law11_pc (D0 : D) (h0 : Sh G 9 44 D0) (D1 : D) (h1 : Sh G 9 44 D1) : PC Try.prog 11 [D0, D1] (dB true) [] := by
  obtain ⟨a, rfl, wa⟩ := sh44 (n := 6) h0
  obtain ⟨b, rfl, wb⟩ := sh44 (n := 6) h1
  exact law11 a wa b wb

end Go.Proofs.YtmhbciaolpamaaaR
