/- Contracts of the functions that the laws run. -/
import Derived.Test.Ytlpobdjfdbfhaaach08
import Derived.Test.YtlpobdjfdbfhaaaEngB
namespace Go.Proofs.Ytlpobdjfdbfhaaa
open Go Go.Eng
set_option linter.unusedSimpArgs false
set_option linter.unusedVariables false
set_option maxRecDepth 10000
set_option maxHeartbeats 1000000
def mIsDoubt (d : TDoubt) : Bool := ascW 7 0 d.Colours && mIn d.Size 0 50 && decide (d.Places.length ≤ 9) && ascW 30 1 d.Places && mIn d.Hours 0 1000
@[simp] def smD (r : TDoubt) : Prop := r.Colours.length ≤ 1099511627776 ∧ r.Places.length ≤ 1099511627776
@[simp] def smDM (r : TDoubt) : Prop := r.Colours.length ≤ maxLen ∧ r.Places.length ≤ maxLen
/-- loop.example/g03007/spec.IsDoubt -/
noncomputable def c87 : Con := mkCon 87 false (α := TDoubt) (fun x => (fun (d : TDoubt) => [encTDoubt d]) x) (fun _ => []) (fun x => (fun (d : TDoubt) => smD d) x) (fun x => (fun (d : TDoubt) => (dB (mIsDoubt d) : D)) x) (fun x => (fun (d : TDoubt) => []) x)
@[simp] theorem c87_f : c87.f = 87 := rfl
@[simp] theorem c87_own : c87.own = false := rfl
theorem c87_inj : ∀ u_ v_ : TDoubt, ((fun x => (fun (d : TDoubt) => [encTDoubt d]) x) u_).map nz = ((fun x => (fun (d : TDoubt) => [encTDoubt d]) x) v_).map nz → u_ = v_ := by
  intro u_ v_ h
  obtain ⟨d_Colours, d_Size, d_Places, d_Hours⟩ := u_
  obtain ⟨d_Colours', d_Size', d_Places', d_Hours'⟩ := v_
  simp [nz_lit, nz1_lit, nz_agg, nz_sl, nz1_sl, encLI, encTDoubt] at h
  first | (simp [h]; done) | (obtain ⟨⟩ := h; simp_all; done) | simp_all
@[simp] theorem c87_fn (d_Colours : List Int) (d_Size : Int) (d_Places : List Int) (d_Hours : Int) : c87.fn [.agg [.sl false 1 (.lit (.int .i64 0)) (ML dI d_Colours), .lit (.int .i64 d_Size), .sl false 1 (.lit (.int .i64 0)) (ML dI d_Places), .lit (.int .i64 d_Hours)]] [] = some ((fun (d : TDoubt) => smD d) ⟨d_Colours, d_Size, d_Places, d_Hours⟩, (fun (d : TDoubt) => (dB (mIsDoubt d) : D)) ⟨d_Colours, d_Size, d_Places, d_Hours⟩, (fun (d : TDoubt) => []) ⟨d_Colours, d_Size, d_Places, d_Hours⟩) :=
  mkCon_fn (fun x y h _ => c87_inj x y h) (⟨d_Colours, d_Size, d_Places, d_Hours⟩ : TDoubt) (by simp [nz, nz1, ML_nil, encLI, encTDoubt]) rfl
theorem c87_pc (d : TDoubt) (hpre : smD d) : PCo Try.prog 87 [encTDoubt d] (Tab.of []) (dB (mIsDoubt d)) (Tab.of []) := by
  obtain ⟨d_Colours, d_Size, d_Places, d_Hours⟩ := d
  refine pco_of_run [] (E := ⟨[c117, c132], []⟩) (m := false) (base := 0) (Env.ok_cons c117_ok (Env.ok_cons c132_ok Env.ok_nil)) G_ok mix 300 6 Try.func87 (by kernel_rfl) rfl (by kernel_rfl) (by kernel_rfl) rfl ?_
  simp [Try.f87]
  simp at hpre
  simp [mIsDoubt, hpre]
  first | rfl | omega | (rw [Bool.eq_iff_iff]; simp; done) | (rw [Bool.eq_iff_iff]; simp; omega) | (rw [Bool.eq_iff_iff]; simp; grind) | grind
theorem c87_ok : c87.ok Try.prog := mkCon_ok fun d hpre => c87_pc d hpre
/-- loop.example/g03007/impl.IsDoubt -/
noncomputable def c89 : Con := mkCon 89 false (α := TDoubt) (fun x => (fun (d : TDoubt) => [encTDoubt d]) x) (fun _ => []) (fun x => (fun (d : TDoubt) => smD d) x) (fun x => (fun (d : TDoubt) => (dB (mIsDoubt d) : D)) x) (fun x => (fun (d : TDoubt) => []) x)
@[simp] theorem c89_f : c89.f = 89 := rfl
@[simp] theorem c89_own : c89.own = false := rfl
theorem c89_inj : ∀ u_ v_ : TDoubt, ((fun x => (fun (d : TDoubt) => [encTDoubt d]) x) u_).map nz = ((fun x => (fun (d : TDoubt) => [encTDoubt d]) x) v_).map nz → u_ = v_ := by
  intro u_ v_ h
  obtain ⟨d_Colours, d_Size, d_Places, d_Hours⟩ := u_
  obtain ⟨d_Colours', d_Size', d_Places', d_Hours'⟩ := v_
  simp [nz_lit, nz1_lit, nz_agg, nz_sl, nz1_sl, encLI, encTDoubt] at h
  first | (simp [h]; done) | (obtain ⟨⟩ := h; simp_all; done) | simp_all
@[simp] theorem c89_fn (d_Colours : List Int) (d_Size : Int) (d_Places : List Int) (d_Hours : Int) : c89.fn [.agg [.sl false 1 (.lit (.int .i64 0)) (ML dI d_Colours), .lit (.int .i64 d_Size), .sl false 1 (.lit (.int .i64 0)) (ML dI d_Places), .lit (.int .i64 d_Hours)]] [] = some ((fun (d : TDoubt) => smD d) ⟨d_Colours, d_Size, d_Places, d_Hours⟩, (fun (d : TDoubt) => (dB (mIsDoubt d) : D)) ⟨d_Colours, d_Size, d_Places, d_Hours⟩, (fun (d : TDoubt) => []) ⟨d_Colours, d_Size, d_Places, d_Hours⟩) :=
  mkCon_fn (fun x y h _ => c89_inj x y h) (⟨d_Colours, d_Size, d_Places, d_Hours⟩ : TDoubt) (by simp [nz, nz1, ML_nil, encLI, encTDoubt]) rfl
theorem c89_pc (d : TDoubt) (hpre : smD d) : PCo Try.prog 89 [encTDoubt d] (Tab.of []) (dB (mIsDoubt d)) (Tab.of []) := by
  obtain ⟨d_Colours, d_Size, d_Places, d_Hours⟩ := d
  refine pco_of_run [] (E := ⟨[c135, c136], []⟩) (m := false) (base := 0) (Env.ok_cons c135_ok (Env.ok_cons c136_ok Env.ok_nil)) G_ok mix 300 6 Try.func89 (by kernel_rfl) rfl (by kernel_rfl) (by kernel_rfl) rfl ?_
  simp [Try.f89]
  simp at hpre
  simp [mIsDoubt, hpre]
  first | rfl | omega | (rw [Bool.eq_iff_iff]; simp; done) | (rw [Bool.eq_iff_iff]; simp; omega) | (rw [Bool.eq_iff_iff]; simp; grind) | grind
theorem c89_ok : c89.ok Try.prog := mkCon_ok fun d hpre => c89_pc d hpre
def szD (r : TDoubt) (left : Int) : Int := if left - r.Colours.length < 0 ∨ left - r.Colours.length - r.Places.length < 0 then -1 else left - r.Colours.length - r.Places.length
/-- loop.example/g03007/laws.toDoubt -/
noncomputable def c88 : Con := mkCon 88 false (α := TDoubt) (fun x => (fun (r : TDoubt) => [encTDoubt r]) x) (fun _ => []) (fun x => (fun (r : TDoubt) => smD r) x) (fun x => (fun (r : TDoubt) => (encTDoubt r : D)) x) (fun x => (fun (r : TDoubt) => []) x)
@[simp] theorem c88_f : c88.f = 88 := rfl
@[simp] theorem c88_own : c88.own = false := rfl
theorem c88_inj : ∀ u_ v_ : TDoubt, ((fun x => (fun (r : TDoubt) => [encTDoubt r]) x) u_).map nz = ((fun x => (fun (r : TDoubt) => [encTDoubt r]) x) v_).map nz → u_ = v_ := by
  intro u_ v_ h
  obtain ⟨r_Colours, r_Size, r_Places, r_Hours⟩ := u_
  obtain ⟨r_Colours', r_Size', r_Places', r_Hours'⟩ := v_
  simp [nz_lit, nz1_lit, nz_agg, nz_sl, nz1_sl, encLI, encTDoubt] at h
  first | (simp [h]; done) | (obtain ⟨⟩ := h; simp_all; done) | simp_all
@[simp] theorem c88_fn (r_Colours : List Int) (r_Size : Int) (r_Places : List Int) (r_Hours : Int) : c88.fn [.agg [.sl false 1 (.lit (.int .i64 0)) (ML dI r_Colours), .lit (.int .i64 r_Size), .sl false 1 (.lit (.int .i64 0)) (ML dI r_Places), .lit (.int .i64 r_Hours)]] [] = some ((fun (r : TDoubt) => smD r) ⟨r_Colours, r_Size, r_Places, r_Hours⟩, (fun (r : TDoubt) => (encTDoubt r : D)) ⟨r_Colours, r_Size, r_Places, r_Hours⟩, (fun (r : TDoubt) => []) ⟨r_Colours, r_Size, r_Places, r_Hours⟩) :=
  mkCon_fn (fun x y h _ => c88_inj x y h) (⟨r_Colours, r_Size, r_Places, r_Hours⟩ : TDoubt) (by simp [nz, nz1, ML_nil, encLI, encTDoubt]) rfl
theorem c88_pc (r : TDoubt) (hpre : smD r) : PCo Try.prog 88 [encTDoubt r] (Tab.of []) (encTDoubt r) (Tab.of []) := by
  obtain ⟨r_Colours, r_Size, r_Places, r_Hours⟩ := r
  refine pco_of_run [] (E := ⟨[c134], []⟩) (m := false) (base := 0) (Env.ok_cons c134_ok Env.ok_nil) G_ok mix 300 6 Try.func88 (by kernel_rfl) rfl (by kernel_rfl) (by kernel_rfl) rfl ?_
  simp [Try.f88]
  simp at hpre
  exact hpre
theorem c88_ok : c88.ok Try.prog := mkCon_ok fun r hpre => c88_pc r hpre
/-- loop.example/g03007/laws.eqDoubt -/
noncomputable def c90 : Con := mkCon 90 false (α := TDoubt × TDoubt) (fun x => (fun (a : TDoubt) (b : TDoubt) => [encTDoubt a, encTDoubt b]) x.1 x.2) (fun _ => []) (fun x => (fun (a : TDoubt) (b : TDoubt) => smD a ∧ smD b) x.1 x.2) (fun x => (fun (a : TDoubt) (b : TDoubt) => (dB (decide (a = b)) : D)) x.1 x.2) (fun x => (fun (a : TDoubt) (b : TDoubt) => []) x.1 x.2)
@[simp] theorem c90_f : c90.f = 90 := rfl
@[simp] theorem c90_own : c90.own = false := rfl
theorem c90_inj : ∀ u_ v_ : TDoubt × TDoubt, ((fun x => (fun (a : TDoubt) (b : TDoubt) => [encTDoubt a, encTDoubt b]) x.1 x.2) u_).map nz = ((fun x => (fun (a : TDoubt) (b : TDoubt) => [encTDoubt a, encTDoubt b]) x.1 x.2) v_).map nz → u_ = v_ := by
  intro u_ v_ h
  obtain ⟨⟨a_Colours, a_Size, a_Places, a_Hours⟩, ⟨b_Colours, b_Size, b_Places, b_Hours⟩⟩ := u_
  obtain ⟨⟨a_Colours', a_Size', a_Places', a_Hours'⟩, ⟨b_Colours', b_Size', b_Places', b_Hours'⟩⟩ := v_
  simp [nz_lit, nz1_lit, nz_agg, nz_sl, nz1_sl, encLI, encTDoubt] at h
  first | (simp [h]; done) | (obtain ⟨⟩ := h; simp_all; done) | simp_all
@[simp] theorem c90_fn (a_Colours : List Int) (a_Size : Int) (a_Places : List Int) (a_Hours : Int) (b_Colours : List Int) (b_Size : Int) (b_Places : List Int) (b_Hours : Int) : c90.fn [.agg [.sl false 1 (.lit (.int .i64 0)) (ML dI a_Colours), .lit (.int .i64 a_Size), .sl false 1 (.lit (.int .i64 0)) (ML dI a_Places), .lit (.int .i64 a_Hours)], .agg [.sl false 1 (.lit (.int .i64 0)) (ML dI b_Colours), .lit (.int .i64 b_Size), .sl false 1 (.lit (.int .i64 0)) (ML dI b_Places), .lit (.int .i64 b_Hours)]] [] = some ((fun (a : TDoubt) (b : TDoubt) => smD a ∧ smD b) ⟨a_Colours, a_Size, a_Places, a_Hours⟩ ⟨b_Colours, b_Size, b_Places, b_Hours⟩, (fun (a : TDoubt) (b : TDoubt) => (dB (decide (a = b)) : D)) ⟨a_Colours, a_Size, a_Places, a_Hours⟩ ⟨b_Colours, b_Size, b_Places, b_Hours⟩, (fun (a : TDoubt) (b : TDoubt) => []) ⟨a_Colours, a_Size, a_Places, a_Hours⟩ ⟨b_Colours, b_Size, b_Places, b_Hours⟩) :=
  mkCon_fn (fun x y h _ => c90_inj x y h) ((⟨a_Colours, a_Size, a_Places, a_Hours⟩, ⟨b_Colours, b_Size, b_Places, b_Hours⟩) : TDoubt × TDoubt) (by simp [nz, nz1, ML_nil, encLI, encTDoubt]) rfl
theorem c90_pc (a : TDoubt) (b : TDoubt) (hpre : smD a ∧ smD b) : PCo Try.prog 90 [encTDoubt a, encTDoubt b] (Tab.of []) (dB (decide (a = b))) (Tab.of []) := by
  obtain ⟨a_Colours, a_Size, a_Places, a_Hours⟩ := a
  obtain ⟨b_Colours, b_Size, b_Places, b_Hours⟩ := b
  refine pco_of_run [] (E := ⟨[c47], []⟩) (m := false) (base := 0) (Env.ok_cons c47_ok Env.ok_nil) G_ok mix 300 6 Try.func90 (by kernel_rfl) rfl (by kernel_rfl) (by kernel_rfl) rfl ?_
  simp [Try.f90]
  simp at hpre
  repeat' (first | omega | refine And.intro ?_ ?_ | intro _)
  all_goals grind
theorem c90_ok : c90.ok Try.prog := mkCon_ok fun ⟨a, b⟩ hpre => c90_pc a b hpre
/-- loop.example/g03007/laws.szDoubt -/
noncomputable def c86 : Con := mkCon 86 false (α := TDoubt × Int) (fun x => (fun (r : TDoubt) (left : Int) => [encTDoubt r, dI left]) x.1 x.2) (fun _ => []) (fun x => (fun (r : TDoubt) (left : Int) => smDM r ∧ 0 ≤ left ∧ left ≤ 1099511627776) x.1 x.2) (fun x => (fun (r : TDoubt) (left : Int) => (dI (szD r left) : D)) x.1 x.2) (fun x => (fun (r : TDoubt) (left : Int) => []) x.1 x.2)
@[simp] theorem c86_f : c86.f = 86 := rfl
@[simp] theorem c86_own : c86.own = false := rfl
theorem c86_inj : ∀ u_ v_ : TDoubt × Int, ((fun x => (fun (r : TDoubt) (left : Int) => [encTDoubt r, dI left]) x.1 x.2) u_).map nz = ((fun x => (fun (r : TDoubt) (left : Int) => [encTDoubt r, dI left]) x.1 x.2) v_).map nz → u_ = v_ := by
  intro u_ v_ h
  obtain ⟨⟨r_Colours, r_Size, r_Places, r_Hours⟩, left⟩ := u_
  obtain ⟨⟨r_Colours', r_Size', r_Places', r_Hours'⟩, left'⟩ := v_
  simp [nz_lit, nz1_lit, nz_agg, nz_sl, nz1_sl, encLI, encTDoubt] at h
  first | (simp [h]; done) | (obtain ⟨⟩ := h; simp_all; done) | simp_all
@[simp] theorem c86_fn (r_Colours : List Int) (r_Size : Int) (r_Places : List Int) (r_Hours : Int) (left : Int) : c86.fn [.agg [.sl false 1 (.lit (.int .i64 0)) (ML dI r_Colours), .lit (.int .i64 r_Size), .sl false 1 (.lit (.int .i64 0)) (ML dI r_Places), .lit (.int .i64 r_Hours)], .lit (.int .i64 left)] [] = some ((fun (r : TDoubt) (left : Int) => smDM r ∧ 0 ≤ left ∧ left ≤ 1099511627776) ⟨r_Colours, r_Size, r_Places, r_Hours⟩ left, (fun (r : TDoubt) (left : Int) => (dI (szD r left) : D)) ⟨r_Colours, r_Size, r_Places, r_Hours⟩ left, (fun (r : TDoubt) (left : Int) => []) ⟨r_Colours, r_Size, r_Places, r_Hours⟩ left) :=
  mkCon_fn (fun x y h _ => c86_inj x y h) ((⟨r_Colours, r_Size, r_Places, r_Hours⟩, left) : TDoubt × Int) (by simp [nz, nz1, ML_nil, encLI, encTDoubt]) rfl
theorem c86_pc (r : TDoubt) (left : Int) (hpre : smDM r ∧ 0 ≤ left ∧ left ≤ 1099511627776) : PCo Try.prog 86 [encTDoubt r, dI left] (Tab.of []) (dI (szD r left)) (Tab.of []) := by
  obtain ⟨r_Colours, r_Size, r_Places, r_Hours⟩ := r
  refine pco_of_run [] (E := ⟨[c131], []⟩) (m := false) (base := 0) (Env.ok_cons c131_ok Env.ok_nil) G_ok mix 300 6 Try.func86 (by kernel_rfl) rfl (by kernel_rfl) (by kernel_rfl) rfl ?_
  simp [Try.f86]
  simp at hpre
  repeat' (first | omega | refine And.intro ?_ ?_ | intro _)
  all_goals (simp only [szD]; (repeat' split) <;> omega)
theorem c86_ok : c86.ok Try.prog := mkCon_ok fun ⟨r, left⟩ hpre => c86_pc r left hpre
theorem wfD_len {r : TDoubt} (h : wfTDoubt r) : r.Colours.length ≤ maxLen ∧ r.Places.length ≤ maxLen := ⟨h.1.1, h.2.2.1.1⟩
theorem szD_len {r : TDoubt} {left : Int} (h : 0 ≤ szD r left) : r.Colours.length ≤ left ∧ r.Places.length ≤ left ∧ szD r left ≤ left := by
  simp only [szD] at h ⊢
  split at h
  · omega
  · rename_i h2; rw [if_neg h2]; omega
/-- loop.example/g03007/laws.FnExactIsDoubt -/
theorem law21 (r : TDoubt) (wr : wfTDoubt r) : PCo Try.prog 21 [encTDoubt r] (Tab.of []) (dB true) (Tab.of []) := by
  obtain ⟨r_Colours, r_Size, r_Places, r_Hours⟩ := r
  refine pco_of_run [10] (E := ⟨[c86, c87, c88, c89, c90], []⟩) (m := false) (base := 0) (Env.ok_cons c86_ok (Env.ok_cons c87_ok (Env.ok_cons c88_ok (Env.ok_cons c89_ok (Env.ok_cons c90_ok Env.ok_nil))))) G_ok mix 400 6 Try.func21 (by kernel_rfl) rfl (by kernel_rfl) (by kernel_rfl) rfl ?_
  simp [Try.f21]
  have h1 := wfD_len wr
  simp at h1
  refine ⟨h1, fun h => ?_⟩
  have h2 := szD_len h
  simp at h2
  omega
theorem law21_pc (D0 : D) (h0 : Sh G 9 87 D0) : PC Try.prog 21 [D0] (dB true) [] := by
  obtain ⟨r, rfl, wr⟩ := sh87 (n := 6) h0
  exact law21 r wr

end Go.Proofs.Ytlpobdjfdbfhaaa
