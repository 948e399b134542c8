/- Contracts of the functions that the laws run. -/
import Derived.Test.Ytelhilcdlfjafaach07
import Derived.Test.Ytelhilcdlfjafaaputi
import Derived.Test.YtelhilcdlfjafaaEngB
namespace Go.Proofs.Ytelhilcdlfjafaa
open Go Go.Eng
set_option linter.unusedSimpArgs false
set_option linter.unusedVariables false
set_option maxRecDepth 10000
set_option maxHeartbeats 1000000
def tyO : Option (List Int) → Nat
  | none => 95
  | some _ => 91
def inO : Option (List Int) → D
  | none => .agg []
  | some l => encLI l
theorem inO_none : inO none = .agg [] := rfl
theorem inO_some {l : List Int} : inO (some l) = encLI l := rfl
theorem tyO_none : tyO none = 95 := rfl
theorem tyO_some {l : List Int} : tyO (some l) = 91 := rfl
@[simp] theorem chD_inj {a b : Option (List Int)} : (tyO a = tyO b ∧ inO a = inO b) ↔ a = b := by
  refine ⟨fun h => ?_, fun h => by rw [h]; exact ⟨rfl, rfl⟩⟩
  obtain ⟨h1, h⟩ := h
  obtain _ | a := a <;> obtain _ | b := b
  · rfl
  · rw [tyO_none, tyO_some] at h1; simp at h1
  · rw [tyO_none, tyO_some] at h1; simp at h1
  · rw [inO_some, inO_some] at h; simpa using h
@[simp] theorem pureD_inO (o : Option (List Int)) : pureD (inO o) = true := by
  obtain _ | a := o
  · rfl
  · simp [inO_some]
@[simp high] theorem lendD_inO (T : Tab) (k : Nat) (o : Option (List Int)) : lendD T (k + 1) (inO o) = inO o := by
  obtain _ | a := o
  · rfl
  · simp [inO_some, lendD]
@[simp high] theorem lendOk_inO (T : Tab) (k : Nat) (o : Option (List Int)) : lendOk T (k + 1) (inO o) = True := by
  obtain _ | a := o
  · simp [inO_none, lendOk]
  · simp [inO_some, lendOk]
def chLen : Option (List Int) → Nat
  | none => 0
  | some l => l.length
@[simp] theorem chLen_none : chLen none = 0 := rfl
@[simp] theorem chLen_some {l} : chLen (some l) = l.length := rfl
def hasC : Option (List Int) → Int → Bool
  | none, _ => true
  | some l, n => decide (n ∈ l)
@[simp] theorem hasC_none {n} : hasC none n = true := rfl
theorem hasC_some {l n} : hasC (some l) n = decide (n ∈ l) := rfl
def chOf (l : List Int) : Option (List Int) := if l = [] then none else some l
@[simp] theorem chLen_chOf (l : List Int) : chLen (chOf l) = l.length := by
  by_cases h : l = [] <;> simp [chOf, h]
theorem indexBy_memC {n : Int} : ∀ (l : List Int) (i : Int), 0 ≤ i → (0 ≤ indexBy (wantN (fun x => x) n) i l ↔ n ∈ l)
  | [], i, _ => by simp [indexBy]
  | x :: r, i, hi => by
    simp only [indexBy, List.mem_cons]
    by_cases h : x = n
    · have hw : wantN (fun x => x) n x = true := by simp [wantN, h]
      rw [if_pos hw]; simp [hi, h]
    · have hw : wantN (fun x => x) n x = false := by simp [wantN, h]
      rw [if_neg (by simp [hw]), indexBy_memC r (i + 1) (by omega)]
      constructor
      · exact .inr
      · rintro (e | e)
        · exact absurd e.symm h
        · exact e
/-- slices.Index[loop.example/g03007/impl.onl -/
noncomputable def c91 : Con := mkCon 91 false (α := (List Int) × Int) (fun x => (fun (l : List Int) (n : Int) => [encLI l, dI n]) x.1 x.2) (fun _ => []) (fun x => (fun (l : List Int) (n : Int) => l.length ≤ 1099511627776) x.1 x.2) (fun x => (fun (l : List Int) (n : Int) => (dI (indexBy (wantN (fun x => x) n) 0 l) : D)) x.1 x.2) (fun x => (fun (l : List Int) (n : Int) => []) x.1 x.2)
@[simp] theorem c91_f : c91.f = 91 := rfl
@[simp] theorem c91_own : c91.own = false := rfl
theorem c91_inj : ∀ u_ v_ : (List Int) × Int, ((fun x => (fun (l : List Int) (n : Int) => [encLI l, dI n]) x.1 x.2) u_).map nz = ((fun x => (fun (l : List Int) (n : Int) => [encLI l, dI n]) x.1 x.2) v_).map nz → u_ = v_ := by
  intro u_ v_ h
  obtain ⟨l, n⟩ := u_
  obtain ⟨l', n'⟩ := v_
  simp [nz_lit, nz1_lit, nz_agg, nz_sl, nz1_sl, encLI] at h
  first | (simp [h]; done) | (obtain ⟨⟩ := h; simp_all; done) | simp_all
@[simp] theorem c91_fn (l : List Int) (n : Int) : c91.fn [.sl false 1 (.lit (.int .i64 0)) (ML dI l), .lit (.int .i64 n)] [] = some ((fun (l : List Int) (n : Int) => l.length ≤ 1099511627776) l n, (fun (l : List Int) (n : Int) => (dI (indexBy (wantN (fun x => x) n) 0 l) : D)) l n, (fun (l : List Int) (n : Int) => []) l n) :=
  mkCon_fn (fun x y h _ => c91_inj x y h) ((l, n) : (List Int) × Int) (by simp [nz, nz1, ML_nil, encLI]) rfl
@[simp] theorem c91_fn1 (s_l : Nat) (z_l : D) (n : Int) : c91.fn [.sl false s_l z_l [], .lit (.int .i64 n)] [] = some ((fun (l : List Int) (n : Int) => l.length ≤ 1099511627776) [] n, (fun (l : List Int) (n : Int) => (dI (indexBy (wantN (fun x => x) n) 0 l) : D)) [] n, (fun (l : List Int) (n : Int) => []) [] n) :=
  mkCon_fn (fun x y h _ => c91_inj x y h) (([], n) : (List Int) × Int) (by simp [nz, nz1, ML_nil, encLI]) rfl
theorem c91_pc (l : List Int) (n : Int) (hpre : l.length ≤ 1099511627776) : PCo Try.prog 91 [encLI l, dI n] (Tab.of []) (dI (indexBy (wantN (fun x => x) n) 0 l)) (Tab.of []) := by
  refine pco_of_run [] (E := ⟨[], [], []⟩) (m := false) (base := 0) Env.ok_nil G_ok mix 300 6 Try.func91 (by kernel_rfl) rfl (by kernel_rfl) (by kernel_rfl) rfl ?_
  simp [Try.f91]
  refine loop_inv (fun p : Nat => p ≤ l.length ∧ indexBy (wantN (fun x => x) n) 0 l = indexBy (wantN (fun x => x) n) p (l.drop p)) (fun p => [(0, encLI l), (1, dI n), (7, dI l.length), (8, dI p)]) (fun _ => []) 1 (fun p => l.length - p) 0 400 (by simp) (by simp) (by simp) ?_
  intro p ⟨hp, hi⟩
  simp
  refine ⟨fun hlt => ?_, fun hge => ?_⟩
  · rw [indexBy_at (d := 0) hlt] at hi; simp only [wantN, decide_eq_true_eq] at hi
    repeat' (first | omega | refine And.intro ?_ ?_ | intro _)
    all_goals first | exact Again.mk (p + 1) ⟨by omega, by rw [hi]; grind⟩ (by simp) (by first | omega | (simp; omega)) | (rw [hi]; grind)
  · rw [hi, indexBy_end hge]
theorem c91_ok : c91.ok Try.prog := mkCon_ok fun ⟨l, n⟩ hpre => c91_pc l n hpre
/-- slices.Contains[loop.example/g03007/impl.onl -/
noncomputable def c90 : Con := mkCon 90 false (α := (List Int) × Int) (fun x => (fun (l : List Int) (n : Int) => [encLI l, dI n]) x.1 x.2) (fun _ => []) (fun x => (fun (l : List Int) (n : Int) => l.length ≤ 1099511627776) x.1 x.2) (fun x => (fun (l : List Int) (n : Int) => (dB (decide (n ∈ l)) : D)) x.1 x.2) (fun x => (fun (l : List Int) (n : Int) => []) x.1 x.2)
@[simp] theorem c90_f : c90.f = 90 := rfl
@[simp] theorem c90_own : c90.own = false := rfl
theorem c90_inj : ∀ u_ v_ : (List Int) × Int, ((fun x => (fun (l : List Int) (n : Int) => [encLI l, dI n]) x.1 x.2) u_).map nz = ((fun x => (fun (l : List Int) (n : Int) => [encLI l, dI n]) x.1 x.2) v_).map nz → u_ = v_ := by
  intro u_ v_ h
  obtain ⟨l, n⟩ := u_
  obtain ⟨l', n'⟩ := v_
  simp [nz_lit, nz1_lit, nz_agg, nz_sl, nz1_sl, encLI] at h
  first | (simp [h]; done) | (obtain ⟨⟩ := h; simp_all; done) | simp_all
@[simp] theorem c90_fn (l : List Int) (n : Int) : c90.fn [.sl false 1 (.lit (.int .i64 0)) (ML dI l), .lit (.int .i64 n)] [] = some ((fun (l : List Int) (n : Int) => l.length ≤ 1099511627776) l n, (fun (l : List Int) (n : Int) => (dB (decide (n ∈ l)) : D)) l n, (fun (l : List Int) (n : Int) => []) l n) :=
  mkCon_fn (fun x y h _ => c90_inj x y h) ((l, n) : (List Int) × Int) (by simp [nz, nz1, ML_nil, encLI]) rfl
@[simp] theorem c90_fn1 (s_l : Nat) (z_l : D) (n : Int) : c90.fn [.sl false s_l z_l [], .lit (.int .i64 n)] [] = some ((fun (l : List Int) (n : Int) => l.length ≤ 1099511627776) [] n, (fun (l : List Int) (n : Int) => (dB (decide (n ∈ l)) : D)) [] n, (fun (l : List Int) (n : Int) => []) [] n) :=
  mkCon_fn (fun x y h _ => c90_inj x y h) (([], n) : (List Int) × Int) (by simp [nz, nz1, ML_nil, encLI]) rfl
theorem c90_pc (l : List Int) (n : Int) (hpre : l.length ≤ 1099511627776) : PCo Try.prog 90 [encLI l, dI n] (Tab.of []) (dB (decide (n ∈ l))) (Tab.of []) := by
  refine pco_of_run [] (E := ⟨[c91], [], []⟩) (m := false) (base := 0) (Env.ok_cons c91_ok Env.ok_nil) G_ok mix 300 6 Try.func90 (by kernel_rfl) rfl (by kernel_rfl) (by kernel_rfl) rfl ?_
  simp [Try.f90]
  refine ⟨hpre, ?_⟩
  exact indexBy_memC l 0 (by omega)
theorem c90_ok : c90.ok Try.prog := mkCon_ok fun ⟨l, n⟩ hpre => c90_pc l n hpre
/-- (loop.example/g03007/impl.only).has -/
noncomputable def c89 : Con := mkCon 89 false (α := (List Int) × Int) (fun x => (fun (l : List Int) (n : Int) => [encLI l, dI n]) x.1 x.2) (fun _ => []) (fun x => (fun (l : List Int) (n : Int) => l.length ≤ 1099511627776) x.1 x.2) (fun x => (fun (l : List Int) (n : Int) => (dB (decide (n ∈ l)) : D)) x.1 x.2) (fun x => (fun (l : List Int) (n : Int) => []) x.1 x.2)
@[simp] theorem c89_f : c89.f = 89 := rfl
@[simp] theorem c89_own : c89.own = false := rfl
theorem c89_inj : ∀ u_ v_ : (List Int) × Int, ((fun x => (fun (l : List Int) (n : Int) => [encLI l, dI n]) x.1 x.2) u_).map nz = ((fun x => (fun (l : List Int) (n : Int) => [encLI l, dI n]) x.1 x.2) v_).map nz → u_ = v_ := by
  intro u_ v_ h
  obtain ⟨l, n⟩ := u_
  obtain ⟨l', n'⟩ := v_
  simp [nz_lit, nz1_lit, nz_agg, nz_sl, nz1_sl, encLI] at h
  first | (simp [h]; done) | (obtain ⟨⟩ := h; simp_all; done) | simp_all
@[simp] theorem c89_fn (l : List Int) (n : Int) : c89.fn [.sl false 1 (.lit (.int .i64 0)) (ML dI l), .lit (.int .i64 n)] [] = some ((fun (l : List Int) (n : Int) => l.length ≤ 1099511627776) l n, (fun (l : List Int) (n : Int) => (dB (decide (n ∈ l)) : D)) l n, (fun (l : List Int) (n : Int) => []) l n) :=
  mkCon_fn (fun x y h _ => c89_inj x y h) ((l, n) : (List Int) × Int) (by simp [nz, nz1, ML_nil, encLI]) rfl
@[simp] theorem c89_fn1 (s_l : Nat) (z_l : D) (n : Int) : c89.fn [.sl false s_l z_l [], .lit (.int .i64 n)] [] = some ((fun (l : List Int) (n : Int) => l.length ≤ 1099511627776) [] n, (fun (l : List Int) (n : Int) => (dB (decide (n ∈ l)) : D)) [] n, (fun (l : List Int) (n : Int) => []) [] n) :=
  mkCon_fn (fun x y h _ => c89_inj x y h) (([], n) : (List Int) × Int) (by simp [nz, nz1, ML_nil, encLI]) rfl
theorem c89_pc (l : List Int) (n : Int) (hpre : l.length ≤ 1099511627776) : PCo Try.prog 89 [encLI l, dI n] (Tab.of []) (dB (decide (n ∈ l))) (Tab.of []) := by
  refine pco_of_run [] (E := ⟨[c90], [], []⟩) (m := false) (base := 0) (Env.ok_cons c90_ok Env.ok_nil) G_ok mix 300 6 Try.func89 (by kernel_rfl) rfl (by kernel_rfl) (by kernel_rfl) rfl ?_
  simp [Try.f89]
  exact hpre
theorem c89_ok : c89.ok Try.prog := mkCon_ok fun ⟨l, n⟩ hpre => c89_pc l n hpre
/-- (loop.example/g03007/impl.everything).has -/
noncomputable def c92 : Con := mkCon 92 false (α := Int) (fun x => (fun (n : Int) => ([.agg [], dI n] : List D)) x) (fun x => (fun (n : Int) => ([] : List (Nm × OO))) x) (fun x => (fun (n : Int) => True) x) (fun x => (fun (n : Int) => (dB true : D)) x) (fun x => (fun (n : Int) => ([] : List (Nm × OO))) x)
@[simp] theorem c92_f : c92.f = 92 := rfl
@[simp] theorem c92_own : c92.own = false := rfl
theorem c92_inj : ∀ u_ v_ : Int, ((fun x => (fun (n : Int) => ([.agg [], dI n] : List D)) x) u_).map nz = ((fun x => (fun (n : Int) => ([.agg [], dI n] : List D)) x) v_).map nz → (fun x => (fun (n : Int) => ([] : List (Nm × OO))) x) u_ = (fun x => (fun (n : Int) => ([] : List (Nm × OO))) x) v_ → u_ = v_ := by
  intro u_ v_ h h2_
  obtain n := u_
  obtain n' := v_
  simp [nz_lit, nz1_lit, nz_agg, nz_sl, nz1_sl, nz_sx, nz_el, nz1_el, nz_own, nz1_own, nz_ptr, nz_fn, nz_iface] at h h2_
  first | (simp [h, h2_]; done) | (obtain ⟨h3_, h4_⟩ := List.append_inj h2_ h.1; simp_all; done) | simp_all | grind
@[simp] theorem c92_fn (n : Int) : c92.fn ([.agg [], dI n]) ([]) = some (True, dB true, []) :=
  mkCon_fn c92_inj (n : Int) rfl rfl
theorem c92_pc (n : Int) : PCo Try.prog 92 ([.agg [], dI n]) (Tab.of ([])) (dB true) (Tab.of ([])) := by
  refine pco_of_run [] (E := ⟨[], [], []⟩) (m := false) (base := 0) Env.ok_nil G_ok mix 300 6 Try.func92 (by kernel_rfl) rfl (by kernel_rfl) (by kernel_rfl) rfl ?_
  simp [Try.f92]
  first | done | rfl
theorem c92_ok : c92.ok Try.prog := mkCon_ok fun n hpre => c92_pc n
/-- loop.example/g03007/impl.choiceOf -/
noncomputable def c58 : Con := mkCon 58 false (α := (List Int)) (fun x => (fun (l : List Int) => [encLI l]) x) (fun _ => []) (fun x => (fun (l : List Int) => True) x) (fun x => (fun (l : List Int) => ((D.iface (tyO (chOf l)) (inO (chOf l))) : D)) x) (fun x => (fun (l : List Int) => []) x)
@[simp] theorem c58_f : c58.f = 58 := rfl
@[simp] theorem c58_own : c58.own = false := rfl
theorem c58_inj : ∀ u_ v_ : (List Int), ((fun x => (fun (l : List Int) => [encLI l]) x) u_).map nz = ((fun x => (fun (l : List Int) => [encLI l]) x) v_).map nz → u_ = v_ := by
  intro u_ v_ h
  obtain l := u_
  obtain l' := v_
  simp [nz_lit, nz1_lit, nz_agg, nz_sl, nz1_sl, encLI] at h
  first | (simp [h]; done) | (obtain ⟨⟩ := h; simp_all; done) | simp_all
@[simp] theorem c58_fn (l : List Int) : c58.fn [.sl false 1 (.lit (.int .i64 0)) (ML dI l)] [] = some ((fun (l : List Int) => True) l, (fun (l : List Int) => ((D.iface (tyO (chOf l)) (inO (chOf l))) : D)) l, (fun (l : List Int) => []) l) :=
  mkCon_fn (fun x y h _ => c58_inj x y h) (l : (List Int)) (by simp [nz, nz1, ML_nil, encLI]) rfl
@[simp] theorem c58_fn1 (s_l : Nat) (z_l : D) : c58.fn [.sl false s_l z_l []] [] = some ((fun (l : List Int) => True) [], (fun (l : List Int) => ((D.iface (tyO (chOf l)) (inO (chOf l))) : D)) [], (fun (l : List Int) => []) []) :=
  mkCon_fn (fun x y h _ => c58_inj x y h) ([] : (List Int)) (by simp [nz, nz1, ML_nil, encLI]) rfl
theorem c58_pc (l : List Int) : PCo Try.prog 58 [encLI l] (Tab.of []) ((D.iface (tyO (chOf l)) (inO (chOf l)))) (Tab.of []) := by
  refine pco_of_run [] (E := ⟨[], [], []⟩) (m := false) (base := 0) Env.ok_nil G_ok mix 300 6 Try.func58 (by kernel_rfl) rfl (by kernel_rfl) (by kernel_rfl) rfl ?_
  by_cases h : l = []
  · subst h; simp [Try.f58, chOf, tyO_none, inO_none]
  · simp [Try.f58, chOf, h, tyO_some, inO_some]
theorem c58_ok : c58.ok Try.prog := mkCon_ok fun l hpre => c58_pc l
def bothF (o q : Option (List Int)) (l : List Int) : List Int := pick (fun n => hasC o n && hasC q n) (fun n => n) l
def bothO (o q : Option (List Int)) : List Int := match o, q with
  | some a, q => bothF (some a) q a
  | none, some b => bothF none (some b) b
  | none, none => []
def bothS (o q : Option (List Int)) : Bool := match o, q with
  | none, none => true
  | o, q => decide (0 < (bothO o q).length)
/-- loop.example/g03007/impl.inBoth -/
noncomputable def c57 : Con := mkCon 57 false (α := (Option (List Int)) × (Option (List Int))) (fun x => (fun (o : Option (List Int)) (q : Option (List Int)) => ([(D.iface (tyO o) (inO o)), (D.iface (tyO q) (inO q))] : List D)) x.1 x.2) (fun x => (fun (o : Option (List Int)) (q : Option (List Int)) => ([] : List (Nm × OO))) x.1 x.2) (fun x => (fun (o : Option (List Int)) (q : Option (List Int)) => chLen o ≤ 1099511627776 ∧ chLen q ≤ 1099511627776) x.1 x.2) (fun x => (fun (o : Option (List Int)) (q : Option (List Int)) => (.tup [encLI (bothO o q), dB (bothS o q)] : D)) x.1 x.2) (fun x => (fun (o : Option (List Int)) (q : Option (List Int)) => ([] : List (Nm × OO))) x.1 x.2)
@[simp] theorem c57_f : c57.f = 57 := rfl
@[simp] theorem c57_own : c57.own = false := rfl
theorem c57_inj : ∀ u_ v_ : (Option (List Int)) × (Option (List Int)), ((fun x => (fun (o : Option (List Int)) (q : Option (List Int)) => ([(D.iface (tyO o) (inO o)), (D.iface (tyO q) (inO q))] : List D)) x.1 x.2) u_).map nz = ((fun x => (fun (o : Option (List Int)) (q : Option (List Int)) => ([(D.iface (tyO o) (inO o)), (D.iface (tyO q) (inO q))] : List D)) x.1 x.2) v_).map nz → (fun x => (fun (o : Option (List Int)) (q : Option (List Int)) => ([] : List (Nm × OO))) x.1 x.2) u_ = (fun x => (fun (o : Option (List Int)) (q : Option (List Int)) => ([] : List (Nm × OO))) x.1 x.2) v_ → u_ = v_ := by
  intro u_ v_ h h2_
  obtain ⟨o, q⟩ := u_
  obtain ⟨o', q'⟩ := v_
  simp [nz_lit, nz1_lit, nz_agg, nz_sl, nz1_sl, nz_sx, nz_el, nz1_el, nz_own, nz1_own, nz_ptr, nz_fn, nz_iface] at h h2_
  first | (simp [h, h2_]; done) | (obtain ⟨h3_, h4_⟩ := List.append_inj h2_ h.1; simp_all; done) | simp_all | grind
@[simp] theorem c57_fn (o : Option (List Int)) (q : Option (List Int)) : c57.fn ([(D.iface (tyO o) (inO o)), (D.iface (tyO q) (inO q))]) ([]) = some (chLen o ≤ 1099511627776 ∧ chLen q ≤ 1099511627776, .tup [encLI (bothO o q), dB (bothS o q)], []) :=
  mkCon_fn c57_inj ((o, q) : (Option (List Int)) × (Option (List Int))) rfl rfl
theorem c57_pc (o : Option (List Int)) (q : Option (List Int)) (hpre : chLen o ≤ 1099511627776 ∧ chLen q ≤ 1099511627776) : PCo Try.prog 57 ([(D.iface (tyO o) (inO o)), (D.iface (tyO q) (inO q))]) (Tab.of ([])) (.tup [encLI (bothO o q), dB (bothS o q)]) (Tab.of ([])) := by
  refine pco_of_run [] (E := ⟨[c89, c92], [(91, "loop.example/g03007/impl.has", 89), (95, "loop.example/g03007/impl.has", 92)], []⟩) (m := false) (base := 0) (Env.ok_cons c89_ok (Env.ok_cons c92_ok (Env.ok_me (meth_of (by kernel_rfl) (by kernel_rfl)) (Env.ok_me (meth_of (by kernel_rfl) (by kernel_rfl)) Env.ok_nil)))) G_ok mix 300 6 Try.func57 (by kernel_rfl) rfl (by kernel_rfl) (by kernel_rfl) rfl ?_
  obtain ⟨hp1, hp2⟩ := hpre
  have step : ∀ (o q : Option (List Int)) (l : List Int) (p : Nat), p < l.length → (hasC o (l[p]?.getD 0) = true → hasC q (l[p]?.getD 0) = true → bothF o q (l.take (p + 1)) = bothF o q (l.take p) ++ [l[p]?.getD 0]) ∧ ((hasC o (l[p]?.getD 0) && hasC q (l[p]?.getD 0)) = false → bothF o q (l.take (p + 1)) = bothF o q (l.take p)) := by
    intro o q l p hlt
    have hs := pick_at (want := fun n => hasC o n && hasC q n) (f := fun n => n) (d := 0) hlt
    exact ⟨fun h1 h2 => by simp only [bothF]; rw [hs, if_pos (by simp [h1, h2])], fun h => by simp only [bothF]; rw [hs, if_neg (by simp [h]), List.append_nil]⟩
  have len : ∀ (o q : Option (List Int)) (l : List Int) (p : Nat), (bothF o q (l.take p)).length ≤ p := fun o q l p => pick_take_len l p
  obtain _ | a := o <;> obtain _ | b := q <;> simp at hp1 hp2
  · simp [Try.f57, tyO_none, inO_none, bothO, bothS]
    refine loop_unroll 400 ?_
    simp
  · simp [Try.f57, tyO_none, inO_none, tyO_some, inO_some, bothO, bothS]
    refine loop_inv (fun p : Nat => p ≤ b.length) (fun p => [(0, .iface 95 (.agg [])), (1, .iface 91 (encLI b)), (7, dB true), (8, .own (0, 1) 1 0 (bothF none (some b) (b.take p)).length), (24, encLI b), (25, dI b.length), (26, dI p)]) (fun p => [((0, 1), .arr false 1 (dI 0) (ML dI (bothF none (some b) (b.take p))))]) 2 (fun p => b.length - p) 0 400 (by simp) (by simp) (by simp [bothF]) ?_
    intro p hp
    have hl := len none (some b) b p
    simp
    refine ⟨fun hlt => ?_, fun hge => ?_⟩
    · obtain ⟨s1, s2⟩ := step none (some b) b p hlt
      simp [hasC_some] at s1 s2
      repeat' (first | omega | refine And.intro ?_ ?_ | intro _)
      all_goals first | (have w := s1 (by assumption); exact Again.mk (p + 1) (by omega) (by simp [w]) (by first | omega | (simp; omega))) | (have w := s2 (by assumption); exact Again.mk (p + 1) (by omega) (by simp [w]) (by first | omega | (simp; omega))) | trace_state
    · rw [List.take_of_length_le hge]; simp; first | done | exact decide_eq_decide.2 Iff.rfl
  · simp [Try.f57, tyO_none, inO_none, tyO_some, inO_some, bothO, bothS]
    refine loop_inv (fun p : Nat => p ≤ a.length) (fun p => [(0, .iface 91 (encLI a)), (1, .iface 95 (.agg [])), (7, dB true), (8, .own (0, 1) 1 0 (bothF (some a) none (a.take p)).length), (24, encLI a), (25, dI a.length), (26, dI p)]) (fun p => [((0, 1), .arr false 1 (dI 0) (ML dI (bothF (some a) none (a.take p))))]) 2 (fun p => a.length - p) 0 400 (by simp) (by simp) (by simp [bothF]) ?_
    intro p hp
    have hl := len (some a) none a p
    simp
    refine ⟨fun hlt => ?_, fun hge => ?_⟩
    · obtain ⟨s1, s2⟩ := step (some a) none a p hlt
      simp [hasC_some] at s1 s2
      repeat' (first | omega | refine And.intro ?_ ?_ | intro _)
      all_goals first | (have w := s1 (by assumption); exact Again.mk (p + 1) (by omega) (by simp [w]) (by first | omega | (simp; omega))) | (have w := s2 (by assumption); exact Again.mk (p + 1) (by omega) (by simp [w]) (by first | omega | (simp; omega))) | trace_state
    · rw [List.take_of_length_le hge]; simp; first | done | exact decide_eq_decide.2 Iff.rfl
  · simp [Try.f57, tyO_some, inO_some, bothO, bothS]
    refine loop_inv (fun p : Nat => p ≤ a.length) (fun p => [(0, .iface 91 (encLI a)), (1, .iface 91 (encLI b)), (7, dB true), (8, .own (0, 1) 1 0 (bothF (some a) (some b) (a.take p)).length), (24, encLI a), (25, dI a.length), (26, dI p)]) (fun p => [((0, 1), .arr false 1 (dI 0) (ML dI (bothF (some a) (some b) (a.take p))))]) 2 (fun p => a.length - p) 0 400 (by simp) (by simp) (by simp [bothF]) ?_
    intro p hp
    have hl := len (some a) (some b) a p
    simp
    refine ⟨fun hlt => ?_, fun hge => ?_⟩
    · obtain ⟨s1, s2⟩ := step (some a) (some b) a p hlt
      simp [hasC_some] at s1 s2
      repeat' (first | omega | refine And.intro ?_ ?_ | intro _)
      all_goals first | (have w := s1 (by assumption) (by assumption); exact Again.mk (p + 1) (by omega) (by simp [w]) (by first | omega | (simp; omega))) | (have w := s2 (by grind); exact Again.mk (p + 1) (by omega) (by simp [w]) (by first | omega | (simp; omega))) | trace_state
    · rw [List.take_of_length_le hge]; simp; first | done | exact decide_eq_decide.2 Iff.rfl
theorem c57_ok : c57.ok Try.prog := mkCon_ok fun ⟨o, q⟩ hpre => c57_pc o q hpre

end Go.Proofs.Ytelhilcdlfjafaa
