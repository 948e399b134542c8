/- Contracts of the functions that the laws run. -/
import Derived.Test.Ytnghehfdclhfdaach08
import Derived.Test.YtnghehfdclhfdaaEngB
namespace Go.Proofs.Ytnghehfdclhfdaa
open Go Go.Eng
set_option linter.unusedSimpArgs false
set_option linter.unusedVariables false
set_option maxRecDepth 10000
set_option maxHeartbeats 1000000
def tyO : Option (List Int) → Nat
  | none => 160
  | some _ => 123
def inO : Option (List Int) → D
  | none => .agg []
  | some l => encLI l
theorem inO_none : inO none = .agg [] := rfl
theorem inO_some {l : List Int} : inO (some l) = encLI l := rfl
theorem chD_none : (D.iface (tyO none) (inO none)) = .iface 160 (.agg []) := rfl
theorem chD_some {l : List Int} : (D.iface (tyO (some l)) (inO (some l))) = .iface 123 (encLI l) := rfl
theorem tyO_none : tyO none = 160 := rfl
theorem tyO_some {l : List Int} : tyO (some l) = 123 := rfl
@[simp] theorem chD_inj {a b : Option (List Int)} : (tyO a = tyO b ∧ inO a = inO b) ↔ a = b := by
  refine ⟨fun h => ?_, fun h => by rw [h]; exact ⟨rfl, rfl⟩⟩
  obtain ⟨h1, h⟩ := h
  obtain _ | a := a <;> obtain _ | b := b
  · rfl
  · rw [tyO_none, tyO_some] at h1; simp at h1
  · rw [tyO_none, tyO_some] at h1; simp at h1
  · rw [inO_some, inO_some] at h; simpa using h
@[simp] theorem pureD_inO (o : Option (List Int)) : pureD (inO o) = true := by
  obtain _ | a := o
  · rfl
  · simp [inO_some]
@[simp high] theorem lendD_inO (T : Tab) (k : Nat) (o : Option (List Int)) : lendD T (k + 1) (inO o) = inO o := by
  obtain _ | a := o
  · rfl
  · simp [inO_some, lendD]
@[simp high] theorem lendOk_inO (T : Tab) (k : Nat) (o : Option (List Int)) : lendOk T (k + 1) (inO o) = True := by
  obtain _ | a := o
  · simp [inO_none, lendOk]
  · simp [inO_some, lendOk]
def chLen : Option (List Int) → Nat
  | none => 0
  | some l => l.length
@[simp] theorem chLen_none : chLen none = 0 := rfl
@[simp] theorem chLen_some {l} : chLen (some l) = l.length := rfl
def hasC : Option (List Int) → Int → Bool
  | none, _ => true
  | some l, n => decide (n ∈ l)
@[simp] theorem hasC_none {n} : hasC none n = true := rfl
theorem hasC_some {l n} : hasC (some l) n = decide (n ∈ l) := rfl
def hasAll (o : Option (List Int)) : Option (List Int) → Bool
  | none => decide (o = none)
  | some b => !(decide (0 ≤ indexBy (fun n => !hasC o n) 0 b))
theorem hasAll_none {o} : hasAll o none = decide (o = none) := rfl
theorem hasAll_some {o b} : hasAll o (some b) = !(decide (0 ≤ indexBy (fun n => !hasC o n) 0 b)) := rfl
theorem indexBy_any9 {w : Int → Bool} : ∀ (l : List Int) (i : Int), 0 ≤ i → (0 ≤ indexBy w i l ↔ l.any w = true)
  | [], i, _ => by simp [indexBy]
  | x :: r, i, hi => by
    have := indexBy_any9 (w := w) r (i + 1) (by omega)
    by_cases hx : w x = true
    · simp [indexBy, hx, hi]
    · simp [indexBy, hx, this]
def chOf (l : List Int) : Option (List Int) := if l = [] then none else some l
@[simp] theorem chLen_chOf (l : List Int) : chLen (chOf l) = l.length := by
  by_cases h : l = [] <;> simp [chOf, h]
def wid (a b : List Int) : Bool := decide (a = []) || (!decide (b = []) && b.all fun n => decide (n ∈ a))
theorem hasAll_wid (a b : List Int) : hasAll (chOf a) (chOf b) = wid a b := by
  by_cases hb : b = []
  · by_cases ha : a = [] <;> simp [chOf, hb, ha, hasAll_none, wid]
  · by_cases ha : a = []
    · have h := indexBy_any9 (w := fun n => !hasC none n) b 0 (by omega)
      simp [chOf, hb, ha, hasAll_some, wid]
      simp at h
      exact h
    · have h := indexBy_any9 (w := fun n => !hasC (some a) n) b 0 (by omega)
      simp [chOf, hb, ha, hasAll_some, wid]
      rw [Bool.eq_iff_iff]
      simp
      have h2 : indexBy (fun n => !hasC (some a) n) 0 b < 0 ↔ ¬ (0 ≤ indexBy (fun n => !hasC (some a) n) 0 b) := by omega
      first | rw [h2, h] | rw [h]
      simp [hasC_some]
/-- slices.Index[loop.example/g03007/impl.onl -/
noncomputable def c214 : Con := mkCon 214 false (α := (List Int) × Int) (fun x => (fun (l : List Int) (n : Int) => [encLI l, dI n]) x.1 x.2) (fun _ => []) (fun x => (fun (l : List Int) (n : Int) => l.length ≤ 1099511627776) x.1 x.2) (fun x => (fun (l : List Int) (n : Int) => (dI (indexBy (wantN (fun x => x) n) 0 l) : D)) x.1 x.2) (fun x => (fun (l : List Int) (n : Int) => []) x.1 x.2)
@[simp] theorem c214_f : c214.f = 214 := rfl
@[simp] theorem c214_own : c214.own = false := rfl
theorem c214_inj : ∀ u_ v_ : (List Int) × Int, ((fun x => (fun (l : List Int) (n : Int) => [encLI l, dI n]) x.1 x.2) u_).map nz = ((fun x => (fun (l : List Int) (n : Int) => [encLI l, dI n]) x.1 x.2) v_).map nz → u_ = v_ := by
  intro u_ v_ h
  obtain ⟨l, n⟩ := u_
  obtain ⟨l', n'⟩ := v_
  simp [nz_lit, nz1_lit, nz_agg, nz_sl, nz1_sl, encLI] at h
  first | (simp [h]; done) | (obtain ⟨⟩ := h; simp_all; done) | simp_all
@[simp] theorem c214_fn (l : List Int) (n : Int) : c214.fn [.sl false 1 (.lit (.int .i64 0)) (ML dI l), .lit (.int .i64 n)] [] = some ((fun (l : List Int) (n : Int) => l.length ≤ 1099511627776) l n, (fun (l : List Int) (n : Int) => (dI (indexBy (wantN (fun x => x) n) 0 l) : D)) l n, (fun (l : List Int) (n : Int) => []) l n) :=
  mkCon_fn (fun x y h _ => c214_inj x y h) ((l, n) : (List Int) × Int) (by simp [nz, nz1, ML_nil, encLI]) rfl
@[simp] theorem c214_fn1 (s_l : Nat) (z_l : D) (n : Int) : c214.fn [.sl false s_l z_l [], .lit (.int .i64 n)] [] = some ((fun (l : List Int) (n : Int) => l.length ≤ 1099511627776) [] n, (fun (l : List Int) (n : Int) => (dI (indexBy (wantN (fun x => x) n) 0 l) : D)) [] n, (fun (l : List Int) (n : Int) => []) [] n) :=
  mkCon_fn (fun x y h _ => c214_inj x y h) (([], n) : (List Int) × Int) (by simp [nz, nz1, ML_nil, encLI]) rfl
theorem c214_pc (l : List Int) (n : Int) (hpre : l.length ≤ 1099511627776) : PCo Try.prog 214 [encLI l, dI n] (Tab.of []) (dI (indexBy (wantN (fun x => x) n) 0 l)) (Tab.of []) := by
  refine pco_of_run [] (E := ⟨[], [], []⟩) (m := false) (base := 0) Env.ok_nil G_ok mix 300 6 Try.func214 (by kernel_rfl) rfl (by kernel_rfl) (by kernel_rfl) rfl ?_
  simp [Try.f214]
  refine loop_inv (fun p : Nat => p ≤ l.length ∧ indexBy (wantN (fun x => x) n) 0 l = indexBy (wantN (fun x => x) n) p (l.drop p)) (fun p => [(0, encLI l), (1, dI n), (7, dI l.length), (8, dI p)]) (fun _ => []) 1 (fun p => l.length - p) 0 400 (by simp) (by simp) (by simp) ?_
  intro p ⟨hp, hi⟩
  simp
  refine ⟨fun hlt => ?_, fun hge => ?_⟩
  · rw [indexBy_at (d := 0) hlt] at hi; simp only [wantN, decide_eq_true_eq] at hi
    repeat' (first | omega | refine And.intro ?_ ?_ | intro _)
    all_goals first | exact Again.mk (p + 1) ⟨by omega, by rw [hi]; grind⟩ (by simp) (by first | omega | (simp; omega)) | (rw [hi]; grind)
  · rw [hi, indexBy_end hge]
theorem c214_ok : c214.ok Try.prog := mkCon_ok fun ⟨l, n⟩ hpre => c214_pc l n hpre
/-- slices.Contains[loop.example/g03007/impl.onl -/
noncomputable def c213 : Con := mkCon 213 false (α := (List Int) × Int) (fun x => (fun (l : List Int) (n : Int) => [encLI l, dI n]) x.1 x.2) (fun _ => []) (fun x => (fun (l : List Int) (n : Int) => l.length ≤ 1099511627776) x.1 x.2) (fun x => (fun (l : List Int) (n : Int) => (dB (decide (n ∈ l)) : D)) x.1 x.2) (fun x => (fun (l : List Int) (n : Int) => []) x.1 x.2)
@[simp] theorem c213_f : c213.f = 213 := rfl
@[simp] theorem c213_own : c213.own = false := rfl
theorem c213_inj : ∀ u_ v_ : (List Int) × Int, ((fun x => (fun (l : List Int) (n : Int) => [encLI l, dI n]) x.1 x.2) u_).map nz = ((fun x => (fun (l : List Int) (n : Int) => [encLI l, dI n]) x.1 x.2) v_).map nz → u_ = v_ := by
  intro u_ v_ h
  obtain ⟨l, n⟩ := u_
  obtain ⟨l', n'⟩ := v_
  simp [nz_lit, nz1_lit, nz_agg, nz_sl, nz1_sl, encLI] at h
  first | (simp [h]; done) | (obtain ⟨⟩ := h; simp_all; done) | simp_all
@[simp] theorem c213_fn (l : List Int) (n : Int) : c213.fn [.sl false 1 (.lit (.int .i64 0)) (ML dI l), .lit (.int .i64 n)] [] = some ((fun (l : List Int) (n : Int) => l.length ≤ 1099511627776) l n, (fun (l : List Int) (n : Int) => (dB (decide (n ∈ l)) : D)) l n, (fun (l : List Int) (n : Int) => []) l n) :=
  mkCon_fn (fun x y h _ => c213_inj x y h) ((l, n) : (List Int) × Int) (by simp [nz, nz1, ML_nil, encLI]) rfl
@[simp] theorem c213_fn1 (s_l : Nat) (z_l : D) (n : Int) : c213.fn [.sl false s_l z_l [], .lit (.int .i64 n)] [] = some ((fun (l : List Int) (n : Int) => l.length ≤ 1099511627776) [] n, (fun (l : List Int) (n : Int) => (dB (decide (n ∈ l)) : D)) [] n, (fun (l : List Int) (n : Int) => []) [] n) :=
  mkCon_fn (fun x y h _ => c213_inj x y h) (([], n) : (List Int) × Int) (by simp [nz, nz1, ML_nil, encLI]) rfl
theorem c213_pc (l : List Int) (n : Int) (hpre : l.length ≤ 1099511627776) : PCo Try.prog 213 [encLI l, dI n] (Tab.of []) (dB (decide (n ∈ l))) (Tab.of []) := by
  refine pco_of_run [] (E := ⟨[c214], [], []⟩) (m := false) (base := 0) (Env.ok_cons c214_ok Env.ok_nil) G_ok mix 300 6 Try.func213 (by kernel_rfl) rfl (by kernel_rfl) (by kernel_rfl) rfl ?_
  simp [Try.f213]
  refine ⟨hpre, ?_⟩
  exact indexBy_mem l 0 (by omega)
theorem c213_ok : c213.ok Try.prog := mkCon_ok fun ⟨l, n⟩ hpre => c213_pc l n hpre
/-- (loop.example/g03007/impl.only).has -/
noncomputable def c212 : Con := mkCon 212 false (α := (List Int) × Int) (fun x => (fun (l : List Int) (n : Int) => [encLI l, dI n]) x.1 x.2) (fun _ => []) (fun x => (fun (l : List Int) (n : Int) => l.length ≤ 1099511627776) x.1 x.2) (fun x => (fun (l : List Int) (n : Int) => (dB (decide (n ∈ l)) : D)) x.1 x.2) (fun x => (fun (l : List Int) (n : Int) => []) x.1 x.2)
@[simp] theorem c212_f : c212.f = 212 := rfl
@[simp] theorem c212_own : c212.own = false := rfl
theorem c212_inj : ∀ u_ v_ : (List Int) × Int, ((fun x => (fun (l : List Int) (n : Int) => [encLI l, dI n]) x.1 x.2) u_).map nz = ((fun x => (fun (l : List Int) (n : Int) => [encLI l, dI n]) x.1 x.2) v_).map nz → u_ = v_ := by
  intro u_ v_ h
  obtain ⟨l, n⟩ := u_
  obtain ⟨l', n'⟩ := v_
  simp [nz_lit, nz1_lit, nz_agg, nz_sl, nz1_sl, encLI] at h
  first | (simp [h]; done) | (obtain ⟨⟩ := h; simp_all; done) | simp_all
@[simp] theorem c212_fn (l : List Int) (n : Int) : c212.fn [.sl false 1 (.lit (.int .i64 0)) (ML dI l), .lit (.int .i64 n)] [] = some ((fun (l : List Int) (n : Int) => l.length ≤ 1099511627776) l n, (fun (l : List Int) (n : Int) => (dB (decide (n ∈ l)) : D)) l n, (fun (l : List Int) (n : Int) => []) l n) :=
  mkCon_fn (fun x y h _ => c212_inj x y h) ((l, n) : (List Int) × Int) (by simp [nz, nz1, ML_nil, encLI]) rfl
@[simp] theorem c212_fn1 (s_l : Nat) (z_l : D) (n : Int) : c212.fn [.sl false s_l z_l [], .lit (.int .i64 n)] [] = some ((fun (l : List Int) (n : Int) => l.length ≤ 1099511627776) [] n, (fun (l : List Int) (n : Int) => (dB (decide (n ∈ l)) : D)) [] n, (fun (l : List Int) (n : Int) => []) [] n) :=
  mkCon_fn (fun x y h _ => c212_inj x y h) (([], n) : (List Int) × Int) (by simp [nz, nz1, ML_nil, encLI]) rfl
theorem c212_pc (l : List Int) (n : Int) (hpre : l.length ≤ 1099511627776) : PCo Try.prog 212 [encLI l, dI n] (Tab.of []) (dB (decide (n ∈ l))) (Tab.of []) := by
  refine pco_of_run [] (E := ⟨[c213], [], []⟩) (m := false) (base := 0) (Env.ok_cons c213_ok Env.ok_nil) G_ok mix 300 6 Try.func212 (by kernel_rfl) rfl (by kernel_rfl) (by kernel_rfl) rfl ?_
  simp [Try.f212]
  exact hpre
theorem c212_ok : c212.ok Try.prog := mkCon_ok fun ⟨l, n⟩ hpre => c212_pc l n hpre
/-- (loop.example/g03007/impl.everything).has -/
noncomputable def c216 : Con := mkCon 216 false (α := Int) (fun x => (fun (n : Int) => ([.agg [], dI n] : List D)) x) (fun x => (fun (n : Int) => ([] : List (Nm × OO))) x) (fun x => (fun (n : Int) => True) x) (fun x => (fun (n : Int) => (dB true : D)) x) (fun x => (fun (n : Int) => ([] : List (Nm × OO))) x)
@[simp] theorem c216_f : c216.f = 216 := rfl
@[simp] theorem c216_own : c216.own = false := rfl
theorem c216_inj : ∀ u_ v_ : Int, ((fun x => (fun (n : Int) => ([.agg [], dI n] : List D)) x) u_).map nz = ((fun x => (fun (n : Int) => ([.agg [], dI n] : List D)) x) v_).map nz → (fun x => (fun (n : Int) => ([] : List (Nm × OO))) x) u_ = (fun x => (fun (n : Int) => ([] : List (Nm × OO))) x) v_ → u_ = v_ := by
  intro u_ v_ h h2_
  obtain n := u_
  obtain n' := v_
  simp [nz_lit, nz1_lit, nz_agg, nz_sl, nz1_sl, nz_sx, nz_el, nz1_el, nz_own, nz1_own, nz_ptr, nz_fn, nz_iface] at h h2_
  first | (simp [h, h2_]; done) | (obtain ⟨h3_, h4_⟩ := List.append_inj h2_ h.1; simp_all; done) | simp_all | grind
@[simp] theorem c216_fn (n : Int) : c216.fn ([.agg [], dI n]) ([]) = some (True, dB true, []) :=
  mkCon_fn c216_inj (n : Int) rfl rfl
theorem c216_pc (n : Int) : PCo Try.prog 216 ([.agg [], dI n]) (Tab.of ([])) (dB true) (Tab.of ([])) := by
  refine pco_of_run [] (E := ⟨[], [], []⟩) (m := false) (base := 0) Env.ok_nil G_ok mix 300 6 Try.func216 (by kernel_rfl) rfl (by kernel_rfl) (by kernel_rfl) rfl ?_
  simp [Try.f216]
  first | done | rfl
theorem c216_ok : c216.ok Try.prog := mkCon_ok fun n hpre => c216_pc n
/-- loop.example/g03007/impl.hasAllOf$1 -/
noncomputable def c117 : Con := mkCon 117 false (α := Int × (Option (List Int))) (fun x => (fun (n : Int) (o : Option (List Int)) => ([dI n, .el ((D.iface (tyO o) (inO o)))] : List D)) x.1 x.2) (fun x => (fun (n : Int) (o : Option (List Int)) => ([] : List (Nm × OO))) x.1 x.2) (fun x => (fun (n : Int) (o : Option (List Int)) => chLen o ≤ 1099511627776) x.1 x.2) (fun x => (fun (n : Int) (o : Option (List Int)) => (dB (!hasC o n) : D)) x.1 x.2) (fun x => (fun (n : Int) (o : Option (List Int)) => ([] : List (Nm × OO))) x.1 x.2)
@[simp] theorem c117_f : c117.f = 117 := rfl
@[simp] theorem c117_own : c117.own = false := rfl
theorem c117_inj : ∀ u_ v_ : Int × (Option (List Int)), ((fun x => (fun (n : Int) (o : Option (List Int)) => ([dI n, .el ((D.iface (tyO o) (inO o)))] : List D)) x.1 x.2) u_).map nz = ((fun x => (fun (n : Int) (o : Option (List Int)) => ([dI n, .el ((D.iface (tyO o) (inO o)))] : List D)) x.1 x.2) v_).map nz → (fun x => (fun (n : Int) (o : Option (List Int)) => ([] : List (Nm × OO))) x.1 x.2) u_ = (fun x => (fun (n : Int) (o : Option (List Int)) => ([] : List (Nm × OO))) x.1 x.2) v_ → u_ = v_ := by
  intro u_ v_ h h2_
  obtain ⟨n, o⟩ := u_
  obtain ⟨n', o'⟩ := v_
  simp [nz_lit, nz1_lit, nz_agg, nz_sl, nz1_sl, nz_sx, nz_el, nz1_el, nz_own, nz1_own, nz_ptr, nz_fn, nz_iface] at h h2_
  first | (simp [h, h2_]; done) | (obtain ⟨h3_, h4_⟩ := List.append_inj h2_ h.1; simp_all; done) | simp_all | grind
@[simp] theorem c117_fn (n : Int) (o : Option (List Int)) : c117.fn ([dI n, .el ((D.iface (tyO o) (inO o)))]) ([]) = some (chLen o ≤ 1099511627776, dB (!hasC o n), []) :=
  mkCon_fn c117_inj ((n, o) : Int × (Option (List Int))) rfl rfl
theorem c117_pc (n : Int) (o : Option (List Int)) (hpre : chLen o ≤ 1099511627776) : PCo Try.prog 117 ([dI n, .el ((D.iface (tyO o) (inO o)))]) (Tab.of ([])) (dB (!hasC o n)) (Tab.of ([])) := by
  refine pco_of_run [] (E := ⟨[c212, c216], [(123, "loop.example/g03007/impl.has", 212), (160, "loop.example/g03007/impl.has", 216)], []⟩) (m := false) (base := 0) (Env.ok_cons c212_ok (Env.ok_cons c216_ok (Env.ok_me (meth_of (by kernel_rfl) (by kernel_rfl)) (Env.ok_me (meth_of (by kernel_rfl) (by kernel_rfl)) Env.ok_nil)))) G_ok mix 300 6 Try.func117 (by kernel_rfl) rfl (by kernel_rfl) (by kernel_rfl) rfl ?_
  obtain _ | a := o
  · simp [Try.f117, tyO_none, inO_none]
  · simp [Try.f117, tyO_some, inO_some, hasC_some]
    first | done | exact hpre | (simp at hpre; exact hpre)
theorem c117_ok : c117.ok Try.prog := mkCon_ok fun ⟨n, o⟩ hpre => c117_pc n o hpre
@[simp] theorem hasAllOf1_E {n : Int} : c117.fn [dI n, .el (.iface 160 (.agg []))] [] = some (0 ≤ 1099511627776, dB false, []) := c117_fn n none
@[simp] theorem hasAllOf1_O {n : Int} {a : List Int} : c117.fn [dI n, .el (.iface 123 (.sl false 1 (.lit (.int .i64 0)) (ML dI a)))] [] = some (a.length ≤ 1099511627776, dB (!hasC (some a) n), []) := c117_fn n (some a)
/-- slices.IndexFunc[loop.example/g03007/impl.onl -/
noncomputable def c144 : Con := mkCon 144 false (α := (List Int) × (Option (List Int))) (fun x => (fun (b : List Int) (o : Option (List Int)) => ([encLI b, .fn (.func 117) [] [.el ((D.iface (tyO o) (inO o)))]] : List D)) x.1 x.2) (fun x => (fun (b : List Int) (o : Option (List Int)) => ([] : List (Nm × OO))) x.1 x.2) (fun x => (fun (b : List Int) (o : Option (List Int)) => b.length ≤ 1099511627776 ∧ chLen o ≤ 1099511627776) x.1 x.2) (fun x => (fun (b : List Int) (o : Option (List Int)) => (dI (indexBy (fun n => !hasC o n) 0 b) : D)) x.1 x.2) (fun x => (fun (b : List Int) (o : Option (List Int)) => ([] : List (Nm × OO))) x.1 x.2)
@[simp] theorem c144_f : c144.f = 144 := rfl
@[simp] theorem c144_own : c144.own = false := rfl
theorem c144_inj : ∀ u_ v_ : (List Int) × (Option (List Int)), ((fun x => (fun (b : List Int) (o : Option (List Int)) => ([encLI b, .fn (.func 117) [] [.el ((D.iface (tyO o) (inO o)))]] : List D)) x.1 x.2) u_).map nz = ((fun x => (fun (b : List Int) (o : Option (List Int)) => ([encLI b, .fn (.func 117) [] [.el ((D.iface (tyO o) (inO o)))]] : List D)) x.1 x.2) v_).map nz → (fun x => (fun (b : List Int) (o : Option (List Int)) => ([] : List (Nm × OO))) x.1 x.2) u_ = (fun x => (fun (b : List Int) (o : Option (List Int)) => ([] : List (Nm × OO))) x.1 x.2) v_ → u_ = v_ := by
  intro u_ v_ h h2_
  obtain ⟨b, o⟩ := u_
  obtain ⟨b', o'⟩ := v_
  simp [nz_lit, nz1_lit, nz_agg, nz_sl, nz1_sl, nz_sx, nz_el, nz1_el, nz_own, nz1_own, nz_ptr, nz_fn, nz_iface] at h h2_
  first | (simp [h, h2_]; done) | (obtain ⟨h3_, h4_⟩ := List.append_inj h2_ h.1; simp_all; done) | simp_all | grind
@[simp] theorem c144_fn (b : List Int) (o : Option (List Int)) : c144.fn ([(.sl false 1 (.lit (.int .i64 0)) (ML dI b)), .fn (.func 117) [] [.el ((D.iface (tyO o) (inO o)))]]) ([]) = some (b.length ≤ 1099511627776 ∧ chLen o ≤ 1099511627776, dI (indexBy (fun n => !hasC o n) 0 b), []) :=
  mkCon_fn c144_inj ((b, o) : (List Int) × (Option (List Int))) rfl rfl
theorem c144_pc (b : List Int) (o : Option (List Int)) (hpre : b.length ≤ 1099511627776 ∧ chLen o ≤ 1099511627776) : PCo Try.prog 144 ([encLI b, .fn (.func 117) [] [.el ((D.iface (tyO o) (inO o)))]]) (Tab.of ([])) (dI (indexBy (fun n => !hasC o n) 0 b)) (Tab.of ([])) := by
  refine pco_of_run [] (E := ⟨[c117], [], []⟩) (m := false) (base := 0) (Env.ok_cons c117_ok Env.ok_nil) G_ok mix 300 6 Try.func144 (by kernel_rfl) rfl (by kernel_rfl) (by kernel_rfl) rfl ?_
  obtain ⟨hp1, hp2⟩ := hpre
  obtain _ | a := o
  · simp [Try.f144, tyO_none, inO_none]
    refine loop_inv (fun p : Nat => p ≤ b.length ∧ indexBy (fun n => !hasC none n) 0 b = indexBy (fun n => !hasC none n) p (b.drop p)) (fun p => [(0, encLI b), (1, .fn (.func 117) [] [.el (.iface 160 (.agg []))]), (7, dI b.length), (8, dI p)]) (fun _ => []) 1 (fun p => b.length - p) 0 400 (by simp) (by simp) (by simp) ?_
    intro p ⟨hp, hi⟩
    simp
    simp at hi
    refine ⟨fun hlt => ?_, fun hge => ?_⟩
    · rw [indexBy_at (d := 0) hlt] at hi; simp at hi
      repeat' (first | omega | refine And.intro ?_ ?_ | intro _)
      all_goals first | exact Again.mk (p + 1) ⟨by omega, by simpa using hi⟩ (by simp) (by first | omega | (simp; omega)) | (rw [hi]; grind)
    · rw [hi, indexBy_end hge]
  · simp [Try.f144, tyO_some, inO_some]
    simp at hp2
    refine loop_inv (fun p : Nat => p ≤ b.length ∧ indexBy (fun n => !hasC (some a) n) 0 b = indexBy (fun n => !hasC (some a) n) p (b.drop p)) (fun p => [(0, encLI b), (1, .fn (.func 117) [] [.el (.iface 123 (encLI a))]), (7, dI b.length), (8, dI p)]) (fun _ => []) 1 (fun p => b.length - p) 0 400 (by simp) (by simp) (by simp) ?_
    intro p ⟨hp, hi⟩
    simp
    refine ⟨fun hlt => ?_, fun hge => ?_⟩
    · rw [indexBy_at (d := 0) hlt] at hi
      refine ⟨⟨hlt, hp2⟩, fun hh => ?_, fun hh => ?_⟩
      · rw [hi]; simp [hh]
      · refine ⟨by omega, ?_⟩
        exact Again.mk (p + 1) ⟨by omega, by rw [hi]; simp [hh]⟩ (by simp) (by first | omega | (simp; omega))
    · rw [hi, indexBy_end hge]
theorem c144_ok : c144.ok Try.prog := mkCon_ok fun ⟨b, o⟩ hpre => c144_pc b o hpre
@[simp] theorem ixo_E {b : List Int} : c144.fn [.sl false 1 (.lit (.int .i64 0)) (ML dI b), .fn (.func 117) [] [.el (.iface 160 (.agg []))]] [] = some (b.length ≤ 1099511627776 ∧ 0 ≤ 1099511627776, dI (indexBy (fun n => !hasC none n) 0 b), []) := c144_fn b none
@[simp] theorem ixo_O {b a : List Int} : c144.fn [.sl false 1 (.lit (.int .i64 0)) (ML dI b), .fn (.func 117) [] [.el (.iface 123 (.sl false 1 (.lit (.int .i64 0)) (ML dI a)))]] [] = some (b.length ≤ 1099511627776 ∧ a.length ≤ 1099511627776, dI (indexBy (fun n => !hasC (some a) n) 0 b), []) := c144_fn b (some a)
/-- slices.ContainsFunc[loop.example/g03007/impl.onl -/
noncomputable def c116 : Con := mkCon 116 false (α := (List Int) × (Option (List Int))) (fun x => (fun (b : List Int) (o : Option (List Int)) => ([encLI b, .fn (.func 117) [] [.el ((D.iface (tyO o) (inO o)))]] : List D)) x.1 x.2) (fun x => (fun (b : List Int) (o : Option (List Int)) => ([] : List (Nm × OO))) x.1 x.2) (fun x => (fun (b : List Int) (o : Option (List Int)) => b.length ≤ 1099511627776 ∧ chLen o ≤ 1099511627776) x.1 x.2) (fun x => (fun (b : List Int) (o : Option (List Int)) => (dB (decide (0 ≤ indexBy (fun n => !hasC o n) 0 b)) : D)) x.1 x.2) (fun x => (fun (b : List Int) (o : Option (List Int)) => ([] : List (Nm × OO))) x.1 x.2)
@[simp] theorem c116_f : c116.f = 116 := rfl
@[simp] theorem c116_own : c116.own = false := rfl
theorem c116_inj : ∀ u_ v_ : (List Int) × (Option (List Int)), ((fun x => (fun (b : List Int) (o : Option (List Int)) => ([encLI b, .fn (.func 117) [] [.el ((D.iface (tyO o) (inO o)))]] : List D)) x.1 x.2) u_).map nz = ((fun x => (fun (b : List Int) (o : Option (List Int)) => ([encLI b, .fn (.func 117) [] [.el ((D.iface (tyO o) (inO o)))]] : List D)) x.1 x.2) v_).map nz → (fun x => (fun (b : List Int) (o : Option (List Int)) => ([] : List (Nm × OO))) x.1 x.2) u_ = (fun x => (fun (b : List Int) (o : Option (List Int)) => ([] : List (Nm × OO))) x.1 x.2) v_ → u_ = v_ := by
  intro u_ v_ h h2_
  obtain ⟨b, o⟩ := u_
  obtain ⟨b', o'⟩ := v_
  simp [nz_lit, nz1_lit, nz_agg, nz_sl, nz1_sl, nz_sx, nz_el, nz1_el, nz_own, nz1_own, nz_ptr, nz_fn, nz_iface] at h h2_
  first | (simp [h, h2_]; done) | (obtain ⟨h3_, h4_⟩ := List.append_inj h2_ h.1; simp_all; done) | simp_all | grind
@[simp] theorem c116_fn (b : List Int) (o : Option (List Int)) : c116.fn ([(.sl false 1 (.lit (.int .i64 0)) (ML dI b)), .fn (.func 117) [] [.el ((D.iface (tyO o) (inO o)))]]) ([]) = some (b.length ≤ 1099511627776 ∧ chLen o ≤ 1099511627776, dB (decide (0 ≤ indexBy (fun n => !hasC o n) 0 b)), []) :=
  mkCon_fn c116_inj ((b, o) : (List Int) × (Option (List Int))) rfl rfl
theorem c116_pc (b : List Int) (o : Option (List Int)) (hpre : b.length ≤ 1099511627776 ∧ chLen o ≤ 1099511627776) : PCo Try.prog 116 ([encLI b, .fn (.func 117) [] [.el ((D.iface (tyO o) (inO o)))]]) (Tab.of ([])) (dB (decide (0 ≤ indexBy (fun n => !hasC o n) 0 b))) (Tab.of ([])) := by
  refine pco_of_run [] (E := ⟨[c144], [], []⟩) (m := false) (base := 0) (Env.ok_cons c144_ok Env.ok_nil) G_ok mix 300 6 Try.func116 (by kernel_rfl) rfl (by kernel_rfl) (by kernel_rfl) rfl ?_
  obtain ⟨hp1, hp2⟩ := hpre
  obtain _ | a := o
  · simp [Try.f116, tyO_none, inO_none]
    all_goals first | done | omega | trace_state
  · simp at hp2
    simp [Try.f116, tyO_some, inO_some]
    all_goals first | done | omega | trace_state
theorem c116_ok : c116.ok Try.prog := mkCon_ok fun ⟨b, o⟩ hpre => c116_pc b o hpre
@[simp] theorem cfo_E {b : List Int} : c116.fn [.sl false 1 (.lit (.int .i64 0)) (ML dI b), .fn (.func 117) [] [.el (.iface 160 (.agg []))]] [] = some (b.length ≤ 1099511627776 ∧ 0 ≤ 1099511627776, dB (decide (0 ≤ indexBy (fun n => !hasC none n) 0 b)), []) := c116_fn b none
@[simp] theorem cfo_O {b a : List Int} : c116.fn [.sl false 1 (.lit (.int .i64 0)) (ML dI b), .fn (.func 117) [] [.el (.iface 123 (.sl false 1 (.lit (.int .i64 0)) (ML dI a)))]] [] = some (b.length ≤ 1099511627776 ∧ a.length ≤ 1099511627776, dB (decide (0 ≤ indexBy (fun n => !hasC (some a) n) 0 b)), []) := c116_fn b (some a)
/-- loop.example/g03007/impl.hasAllOf -/
noncomputable def c89 : Con := mkCon 89 false (α := (Option (List Int)) × (Option (List Int))) (fun x => (fun (o : Option (List Int)) (q : Option (List Int)) => ([(D.iface (tyO o) (inO o)), (D.iface (tyO q) (inO q))] : List D)) x.1 x.2) (fun x => (fun (o : Option (List Int)) (q : Option (List Int)) => ([] : List (Nm × OO))) x.1 x.2) (fun x => (fun (o : Option (List Int)) (q : Option (List Int)) => chLen o ≤ 1099511627776 ∧ chLen q ≤ 1099511627776) x.1 x.2) (fun x => (fun (o : Option (List Int)) (q : Option (List Int)) => (dB (hasAll o q) : D)) x.1 x.2) (fun x => (fun (o : Option (List Int)) (q : Option (List Int)) => ([] : List (Nm × OO))) x.1 x.2)
@[simp] theorem c89_f : c89.f = 89 := rfl
@[simp] theorem c89_own : c89.own = false := rfl
theorem c89_inj : ∀ u_ v_ : (Option (List Int)) × (Option (List Int)), ((fun x => (fun (o : Option (List Int)) (q : Option (List Int)) => ([(D.iface (tyO o) (inO o)), (D.iface (tyO q) (inO q))] : List D)) x.1 x.2) u_).map nz = ((fun x => (fun (o : Option (List Int)) (q : Option (List Int)) => ([(D.iface (tyO o) (inO o)), (D.iface (tyO q) (inO q))] : List D)) x.1 x.2) v_).map nz → (fun x => (fun (o : Option (List Int)) (q : Option (List Int)) => ([] : List (Nm × OO))) x.1 x.2) u_ = (fun x => (fun (o : Option (List Int)) (q : Option (List Int)) => ([] : List (Nm × OO))) x.1 x.2) v_ → u_ = v_ := by
  intro u_ v_ h h2_
  obtain ⟨o, q⟩ := u_
  obtain ⟨o', q'⟩ := v_
  simp [nz_lit, nz1_lit, nz_agg, nz_sl, nz1_sl, nz_sx, nz_el, nz1_el, nz_own, nz1_own, nz_ptr, nz_fn, nz_iface] at h h2_
  first | (simp [h, h2_]; done) | (obtain ⟨h3_, h4_⟩ := List.append_inj h2_ h.1; simp_all; done) | simp_all | grind
@[simp] theorem c89_fn (o : Option (List Int)) (q : Option (List Int)) : c89.fn ([(D.iface (tyO o) (inO o)), (D.iface (tyO q) (inO q))]) ([]) = some (chLen o ≤ 1099511627776 ∧ chLen q ≤ 1099511627776, dB (hasAll o q), []) :=
  mkCon_fn c89_inj ((o, q) : (Option (List Int)) × (Option (List Int))) rfl rfl
theorem c89_pc (o : Option (List Int)) (q : Option (List Int)) (hpre : chLen o ≤ 1099511627776 ∧ chLen q ≤ 1099511627776) : PCo Try.prog 89 ([(D.iface (tyO o) (inO o)), (D.iface (tyO q) (inO q))]) (Tab.of ([])) (dB (hasAll o q)) (Tab.of ([])) := by
  refine pco_of_run [] (E := ⟨[c116], [], []⟩) (m := false) (base := 0) (Env.ok_cons c116_ok Env.ok_nil) G_ok mix 300 6 Try.func89 (by kernel_rfl) rfl (by kernel_rfl) (by kernel_rfl) rfl ?_
  obtain ⟨hp1, hp2⟩ := hpre
  obtain _ | a := o <;> obtain _ | b := q <;> simp at hp1 hp2
  · simp [Try.f89, tyO_none, inO_none, hasAll_none]
  · simp [Try.f89, tyO_none, inO_none, tyO_some, inO_some, hasAll_some]
    all_goals first | done | omega | trace_state
  · simp [Try.f89, tyO_none, inO_none, tyO_some, inO_some, hasAll_none]
    all_goals first | done | omega | trace_state
  · simp [Try.f89, tyO_some, inO_some, hasAll_some]
    all_goals first | done | omega | trace_state
theorem c89_ok : c89.ok Try.prog := mkCon_ok fun ⟨o, q⟩ hpre => c89_pc o q hpre
/-- loop.example/g03007/impl.choiceOf -/
noncomputable def c154 : Con := mkCon 154 false (α := (List Int)) (fun x => (fun (l : List Int) => [encLI l]) x) (fun _ => []) (fun x => (fun (l : List Int) => True) x) (fun x => (fun (l : List Int) => ((D.iface (tyO (chOf l)) (inO (chOf l))) : D)) x) (fun x => (fun (l : List Int) => []) x)
@[simp] theorem c154_f : c154.f = 154 := rfl
@[simp] theorem c154_own : c154.own = false := rfl
theorem c154_inj : ∀ u_ v_ : (List Int), ((fun x => (fun (l : List Int) => [encLI l]) x) u_).map nz = ((fun x => (fun (l : List Int) => [encLI l]) x) v_).map nz → u_ = v_ := by
  intro u_ v_ h
  obtain l := u_
  obtain l' := v_
  simp [nz_lit, nz1_lit, nz_agg, nz_sl, nz1_sl, encLI] at h
  first | (simp [h]; done) | (obtain ⟨⟩ := h; simp_all; done) | simp_all
@[simp] theorem c154_fn (l : List Int) : c154.fn [.sl false 1 (.lit (.int .i64 0)) (ML dI l)] [] = some ((fun (l : List Int) => True) l, (fun (l : List Int) => ((D.iface (tyO (chOf l)) (inO (chOf l))) : D)) l, (fun (l : List Int) => []) l) :=
  mkCon_fn (fun x y h _ => c154_inj x y h) (l : (List Int)) (by simp [nz, nz1, ML_nil, encLI]) rfl
@[simp] theorem c154_fn1 (s_l : Nat) (z_l : D) : c154.fn [.sl false s_l z_l []] [] = some ((fun (l : List Int) => True) [], (fun (l : List Int) => ((D.iface (tyO (chOf l)) (inO (chOf l))) : D)) [], (fun (l : List Int) => []) []) :=
  mkCon_fn (fun x y h _ => c154_inj x y h) ([] : (List Int)) (by simp [nz, nz1, ML_nil, encLI]) rfl
theorem c154_pc (l : List Int) : PCo Try.prog 154 [encLI l] (Tab.of []) ((D.iface (tyO (chOf l)) (inO (chOf l)))) (Tab.of []) := by
  refine pco_of_run [] (E := ⟨[], [], []⟩) (m := false) (base := 0) Env.ok_nil G_ok mix 300 6 Try.func154 (by kernel_rfl) rfl (by kernel_rfl) (by kernel_rfl) rfl ?_
  by_cases h : l = []
  · subst h; simp [Try.f154, chOf, tyO_none, inO_none]
  · simp [Try.f154, chOf, h, tyO_some, inO_some]
theorem c154_ok : c154.ok Try.prog := mkCon_ok fun l hpre => c154_pc l
theorem chOf_or (l : List Int) : chOf l = none ∨ chOf l = some l := by
  by_cases h : l = []
  · exact Or.inl (by simp [chOf, h])
  · exact Or.inr (by simp [chOf, h])
@[simp] theorem hao_EE : c89.fn [.iface 160 (.agg []), .iface 160 (.agg [])] [] = some (0 ≤ 1099511627776 ∧ 0 ≤ 1099511627776, dB (hasAll none none), []) := c89_fn none none
@[simp] theorem hao_EO {b : List Int} : c89.fn [.iface 160 (.agg []), .iface 123 (.sl false 1 (.lit (.int .i64 0)) (ML dI b))] [] = some (0 ≤ 1099511627776 ∧ b.length ≤ 1099511627776, dB (hasAll none (some b)), []) := c89_fn none (some b)
@[simp] theorem hao_OE {a : List Int} : c89.fn [.iface 123 (.sl false 1 (.lit (.int .i64 0)) (ML dI a)), .iface 160 (.agg [])] [] = some (a.length ≤ 1099511627776 ∧ 0 ≤ 1099511627776, dB (hasAll (some a) none), []) := c89_fn (some a) none
@[simp] theorem hao_OO {a b : List Int} : c89.fn [.iface 123 (.sl false 1 (.lit (.int .i64 0)) (ML dI a)), .iface 123 (.sl false 1 (.lit (.int .i64 0)) (ML dI b))] [] = some (a.length ≤ 1099511627776 ∧ b.length ≤ 1099511627776, dB (hasAll (some a) (some b)), []) := c89_fn (some a) (some b)
end Go.Proofs.Ytnghehfdclhfdaa
