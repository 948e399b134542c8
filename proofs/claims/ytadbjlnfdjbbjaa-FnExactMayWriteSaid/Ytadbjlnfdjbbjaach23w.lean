/- Contracts of the functions that the laws run. -/
import Derived.Test.Ytadbjlnfdjbbjaach23h
import Derived.Test.YtadbjlnfdjbbjaaEngB
namespace Go.Proofs.Ytadbjlnfdjbbjaa
open Go Go.Eng
set_option linter.unusedSimpArgs false
set_option linter.unusedVariables false
set_option maxRecDepth 10000
set_option maxHeartbeats 1000000
/-- loop.example/g03007/impl.WriteLetter -/
noncomputable def c75 : Con := mkCon 75 false (α := (List TLetter) × Int × Int × Int) (fun x => (fun (l : List TLetter) (k : Int) (t : Int) (n : Int) => [encLTLetter l, dI k, dI t, dI n]) x.1 x.2.1 x.2.2.1 x.2.2.2) (fun _ => []) (fun x => (fun (l : List TLetter) (k : Int) (t : Int) (n : Int) => l.length ≤ 1073741000) x.1 x.2.1 x.2.2.1 x.2.2.2) (fun x => (fun (l : List TLetter) (k : Int) (t : Int) (n : Int) => (.tup [.own (0, 1) 3 0 (mWrite l ⟨k, t, n⟩).length, dB (mAreLetters (l ++ [⟨k, t, n⟩]))] : D)) x.1 x.2.1 x.2.2.1 x.2.2.2) (fun x => (fun (l : List TLetter) (k : Int) (t : Int) (n : Int) => [((0, 1), .arr false 3 yTLetter (ML encTLetter (mWrite l ⟨k, t, n⟩)))]) x.1 x.2.1 x.2.2.1 x.2.2.2)
@[simp] theorem c75_f : c75.f = 75 := rfl
@[simp] theorem c75_own : c75.own = false := rfl
theorem c75_inj : ∀ u_ v_ : (List TLetter) × Int × Int × Int, ((fun x => (fun (l : List TLetter) (k : Int) (t : Int) (n : Int) => [encLTLetter l, dI k, dI t, dI n]) x.1 x.2.1 x.2.2.1 x.2.2.2) u_).map nz = ((fun x => (fun (l : List TLetter) (k : Int) (t : Int) (n : Int) => [encLTLetter l, dI k, dI t, dI n]) x.1 x.2.1 x.2.2.1 x.2.2.2) v_).map nz → u_ = v_ := by
  intro u_ v_ h
  obtain ⟨l, k, t, n⟩ := u_
  obtain ⟨l', k', t', n'⟩ := v_
  simp [nz_lit, nz1_lit, nz_agg, nz_sl, nz1_sl, encLTLetter] at h
  first | (simp [h]; done) | (obtain ⟨⟩ := h; simp_all; done) | simp_all
@[simp] theorem c75_fn (l : List TLetter) (k : Int) (t : Int) (n : Int) : c75.fn [.sl false 3 yTLetter (ML encTLetter l), .lit (.int .i64 k), .lit (.int .i64 t), .lit (.int .i64 n)] [] = some ((fun (l : List TLetter) (k : Int) (t : Int) (n : Int) => l.length ≤ 1073741000) l k t n, (fun (l : List TLetter) (k : Int) (t : Int) (n : Int) => (.tup [.own (0, 1) 3 0 (mWrite l ⟨k, t, n⟩).length, dB (mAreLetters (l ++ [⟨k, t, n⟩]))] : D)) l k t n, (fun (l : List TLetter) (k : Int) (t : Int) (n : Int) => [((0, 1), .arr false 3 yTLetter (ML encTLetter (mWrite l ⟨k, t, n⟩)))]) l k t n) :=
  mkCon_fn (fun x y h _ => c75_inj x y h) ((l, k, t, n) : (List TLetter) × Int × Int × Int) (by simp [nz, nz1, ML_nil, encLTLetter]) rfl
@[simp] theorem c75_fn1 (s_l : Nat) (z_l : D) (k : Int) (t : Int) (n : Int) : c75.fn [.sl false s_l z_l [], .lit (.int .i64 k), .lit (.int .i64 t), .lit (.int .i64 n)] [] = some ((fun (l : List TLetter) (k : Int) (t : Int) (n : Int) => l.length ≤ 1073741000) [] k t n, (fun (l : List TLetter) (k : Int) (t : Int) (n : Int) => (.tup [.own (0, 1) 3 0 (mWrite l ⟨k, t, n⟩).length, dB (mAreLetters (l ++ [⟨k, t, n⟩]))] : D)) [] k t n, (fun (l : List TLetter) (k : Int) (t : Int) (n : Int) => [((0, 1), .arr false 3 yTLetter (ML encTLetter (mWrite l ⟨k, t, n⟩)))]) [] k t n) :=
  mkCon_fn (fun x y h _ => c75_inj x y h) (([], k, t, n) : (List TLetter) × Int × Int × Int) (by simp [nz, nz1, ML_nil, encLTLetter]) rfl
theorem c75_pc (l : List TLetter) (k : Int) (t : Int) (n : Int) (hpre : l.length ≤ 1073741000) : PCo Try.prog 75 [encLTLetter l, dI k, dI t, dI n] (Tab.of []) (.tup [.own (0, 1) 3 0 (mWrite l ⟨k, t, n⟩).length, dB (mAreLetters (l ++ [⟨k, t, n⟩]))]) (Tab.of [((0, 1), .arr false 3 yTLetter (ML encTLetter (mWrite l ⟨k, t, n⟩)))]) := by
  refine pco_of_run [] (E := ⟨[c68, c129], []⟩) (m := false) (base := 0) (Env.ok_cons c68_ok (Env.ok_cons c129_ok Env.ok_nil)) G_ok mix 300 6 Try.func75 (by kernel_rfl) rfl (by kernel_rfl) (by kernel_rfl) rfl ?_
  cases h : mAreLetters (l ++ [⟨k, t, n⟩]) with
  | true =>
    simp [Try.f75, h, mWrite_yes h]
    omega
  | false =>
    simp [Try.f75, h, mWrite_no h]
    omega
theorem c75_ok : c75.ok Try.prog := mkCon_ok fun ⟨l, k, t, n⟩ hpre => c75_pc l k t n hpre
/-- loop.example/g03007/impl.MayWrite -/
noncomputable def c73 : Con := mkCon 73 false (α := (List TLetter) × Int × Int × Int) (fun x => (fun (l : List TLetter) (k : Int) (t : Int) (n : Int) => [encLTLetter l, dI k, dI t, dI n]) x.1 x.2.1 x.2.2.1 x.2.2.2) (fun _ => []) (fun x => (fun (l : List TLetter) (k : Int) (t : Int) (n : Int) => l.length ≤ 1073741000) x.1 x.2.1 x.2.2.1 x.2.2.2) (fun x => (fun (l : List TLetter) (k : Int) (t : Int) (n : Int) => (dB (mAreLetters (l ++ [⟨k, t, n⟩])) : D)) x.1 x.2.1 x.2.2.1 x.2.2.2) (fun x => (fun (l : List TLetter) (k : Int) (t : Int) (n : Int) => []) x.1 x.2.1 x.2.2.1 x.2.2.2)
@[simp] theorem c73_f : c73.f = 73 := rfl
@[simp] theorem c73_own : c73.own = false := rfl
theorem c73_inj : ∀ u_ v_ : (List TLetter) × Int × Int × Int, ((fun x => (fun (l : List TLetter) (k : Int) (t : Int) (n : Int) => [encLTLetter l, dI k, dI t, dI n]) x.1 x.2.1 x.2.2.1 x.2.2.2) u_).map nz = ((fun x => (fun (l : List TLetter) (k : Int) (t : Int) (n : Int) => [encLTLetter l, dI k, dI t, dI n]) x.1 x.2.1 x.2.2.1 x.2.2.2) v_).map nz → u_ = v_ := by
  intro u_ v_ h
  obtain ⟨l, k, t, n⟩ := u_
  obtain ⟨l', k', t', n'⟩ := v_
  simp [nz_lit, nz1_lit, nz_agg, nz_sl, nz1_sl, encLTLetter] at h
  first | (simp [h]; done) | (obtain ⟨⟩ := h; simp_all; done) | simp_all
@[simp] theorem c73_fn (l : List TLetter) (k : Int) (t : Int) (n : Int) : c73.fn [.sl false 3 yTLetter (ML encTLetter l), .lit (.int .i64 k), .lit (.int .i64 t), .lit (.int .i64 n)] [] = some ((fun (l : List TLetter) (k : Int) (t : Int) (n : Int) => l.length ≤ 1073741000) l k t n, (fun (l : List TLetter) (k : Int) (t : Int) (n : Int) => (dB (mAreLetters (l ++ [⟨k, t, n⟩])) : D)) l k t n, (fun (l : List TLetter) (k : Int) (t : Int) (n : Int) => []) l k t n) :=
  mkCon_fn (fun x y h _ => c73_inj x y h) ((l, k, t, n) : (List TLetter) × Int × Int × Int) (by simp [nz, nz1, ML_nil, encLTLetter]) rfl
@[simp] theorem c73_fn1 (s_l : Nat) (z_l : D) (k : Int) (t : Int) (n : Int) : c73.fn [.sl false s_l z_l [], .lit (.int .i64 k), .lit (.int .i64 t), .lit (.int .i64 n)] [] = some ((fun (l : List TLetter) (k : Int) (t : Int) (n : Int) => l.length ≤ 1073741000) [] k t n, (fun (l : List TLetter) (k : Int) (t : Int) (n : Int) => (dB (mAreLetters (l ++ [⟨k, t, n⟩])) : D)) [] k t n, (fun (l : List TLetter) (k : Int) (t : Int) (n : Int) => []) [] k t n) :=
  mkCon_fn (fun x y h _ => c73_inj x y h) (([], k, t, n) : (List TLetter) × Int × Int × Int) (by simp [nz, nz1, ML_nil, encLTLetter]) rfl
theorem c73_pc (l : List TLetter) (k : Int) (t : Int) (n : Int) (hpre : l.length ≤ 1073741000) : PCo Try.prog 73 [encLTLetter l, dI k, dI t, dI n] (Tab.of []) (dB (mAreLetters (l ++ [⟨k, t, n⟩]))) (Tab.of []) := by
  refine pco_of_run [] (E := ⟨[c75], []⟩) (m := false) (base := 0) (Env.ok_cons c75_ok Env.ok_nil) G_ok mix 300 6 Try.func73 (by kernel_rfl) rfl (by kernel_rfl) (by kernel_rfl) rfl ?_
  simp [Try.f73]
  exact hpre
theorem c73_ok : c73.ok Try.prog := mkCon_ok fun ⟨l, k, t, n⟩ hpre => c73_pc l k t n hpre
@[simp] theorem are_any : c66.fn [.any] [] = none := by
  simp only [c66, mkCon]
  rw [dif_neg]
  rintro ⟨l, h, _⟩
  rw [List.map_cons, List.map_cons, List.cons.injEq] at h
  replace h : nz (.sl false 3 yTLetter (ML encTLetter l)) = nz .any := h.1
  simp only [nz, nz1] at h
  by_cases e : ML encTLetter l = []
  · rw [if_pos e] at h; cases h
  · rw [if_neg e] at h; cases h
/-- loop.example/g03007/spec.MayWrite -/
noncomputable def c72 : Con := mkCon 72 false (α := (List TLetter) × Int × Int × Int) (fun x => (fun (l : List TLetter) (k : Int) (t : Int) (n : Int) => [encLTLetter l, dI k, dI t, dI n]) x.1 x.2.1 x.2.2.1 x.2.2.2) (fun _ => []) (fun x => (fun (l : List TLetter) (k : Int) (t : Int) (n : Int) => l.length ≤ 1073741000) x.1 x.2.1 x.2.2.1 x.2.2.2) (fun x => (fun (l : List TLetter) (k : Int) (t : Int) (n : Int) => (dB (mAreLetters (l ++ [⟨k, t, n⟩])) : D)) x.1 x.2.1 x.2.2.1 x.2.2.2) (fun x => (fun (l : List TLetter) (k : Int) (t : Int) (n : Int) => []) x.1 x.2.1 x.2.2.1 x.2.2.2)
@[simp] theorem c72_f : c72.f = 72 := rfl
@[simp] theorem c72_own : c72.own = false := rfl
theorem c72_inj : ∀ u_ v_ : (List TLetter) × Int × Int × Int, ((fun x => (fun (l : List TLetter) (k : Int) (t : Int) (n : Int) => [encLTLetter l, dI k, dI t, dI n]) x.1 x.2.1 x.2.2.1 x.2.2.2) u_).map nz = ((fun x => (fun (l : List TLetter) (k : Int) (t : Int) (n : Int) => [encLTLetter l, dI k, dI t, dI n]) x.1 x.2.1 x.2.2.1 x.2.2.2) v_).map nz → u_ = v_ := by
  intro u_ v_ h
  obtain ⟨l, k, t, n⟩ := u_
  obtain ⟨l', k', t', n'⟩ := v_
  simp [nz_lit, nz1_lit, nz_agg, nz_sl, nz1_sl, encLTLetter] at h
  first | (simp [h]; done) | (obtain ⟨⟩ := h; simp_all; done) | simp_all
@[simp] theorem c72_fn (l : List TLetter) (k : Int) (t : Int) (n : Int) : c72.fn [.sl false 3 yTLetter (ML encTLetter l), .lit (.int .i64 k), .lit (.int .i64 t), .lit (.int .i64 n)] [] = some ((fun (l : List TLetter) (k : Int) (t : Int) (n : Int) => l.length ≤ 1073741000) l k t n, (fun (l : List TLetter) (k : Int) (t : Int) (n : Int) => (dB (mAreLetters (l ++ [⟨k, t, n⟩])) : D)) l k t n, (fun (l : List TLetter) (k : Int) (t : Int) (n : Int) => []) l k t n) :=
  mkCon_fn (fun x y h _ => c72_inj x y h) ((l, k, t, n) : (List TLetter) × Int × Int × Int) (by simp [nz, nz1, ML_nil, encLTLetter]) rfl
@[simp] theorem c72_fn1 (s_l : Nat) (z_l : D) (k : Int) (t : Int) (n : Int) : c72.fn [.sl false s_l z_l [], .lit (.int .i64 k), .lit (.int .i64 t), .lit (.int .i64 n)] [] = some ((fun (l : List TLetter) (k : Int) (t : Int) (n : Int) => l.length ≤ 1073741000) [] k t n, (fun (l : List TLetter) (k : Int) (t : Int) (n : Int) => (dB (mAreLetters (l ++ [⟨k, t, n⟩])) : D)) [] k t n, (fun (l : List TLetter) (k : Int) (t : Int) (n : Int) => []) [] k t n) :=
  mkCon_fn (fun x y h _ => c72_inj x y h) (([], k, t, n) : (List TLetter) × Int × Int × Int) (by simp [nz, nz1, ML_nil, encLTLetter]) rfl
theorem c72_pc (l : List TLetter) (k : Int) (t : Int) (n : Int) (hpre : l.length ≤ 1073741000) : PCo Try.prog 72 [encLTLetter l, dI k, dI t, dI n] (Tab.of []) (dB (mAreLetters (l ++ [⟨k, t, n⟩]))) (Tab.of []) := by
  refine pco_of_run [] (E := ⟨[c66], []⟩) (m := false) (base := 0) (Env.ok_cons c66_ok Env.ok_nil) G_ok mix 300 6 Try.func72 (by kernel_rfl) rfl (by kernel_rfl) (by kernel_rfl) rfl ?_
  cases h : mAreLetters l with
  | true =>
    simp [Try.f72, h]
    omega
  | false =>
    have h2 : mAreLetters (l ++ [⟨k, t, n⟩]) = false := by
      cases h3 : mAreLetters (l ++ [⟨k, t, n⟩]) with
      | false => rfl
      | true => rw [mAreL_snoc _ _ h3] at h; cases h
    simp [Try.f72, h, h2]
    omega
theorem c72_ok : c72.ok Try.prog := mkCon_ok fun ⟨l, k, t, n⟩ hpre => c72_pc l k t n hpre
/-- loop.example/g03007/spec.WriteLetter -/
noncomputable def c74 : Con := mkCon 74 false (α := (List TLetter) × Int × Int × Int) (fun x => (fun (l : List TLetter) (k : Int) (t : Int) (n : Int) => [encLTLetter l, dI k, dI t, dI n]) x.1 x.2.1 x.2.2.1 x.2.2.2) (fun _ => []) (fun x => (fun (l : List TLetter) (k : Int) (t : Int) (n : Int) => l.length ≤ 1073741000) x.1 x.2.1 x.2.2.1 x.2.2.2) (fun x => (fun (l : List TLetter) (k : Int) (t : Int) (n : Int) => (.tup [.own (0, 1) 3 0 (mWrite l ⟨k, t, n⟩).length, dB (mAreLetters (l ++ [⟨k, t, n⟩]))] : D)) x.1 x.2.1 x.2.2.1 x.2.2.2) (fun x => (fun (l : List TLetter) (k : Int) (t : Int) (n : Int) => [((0, 1), .arr false 3 yTLetter (ML encTLetter (mWrite l ⟨k, t, n⟩)))]) x.1 x.2.1 x.2.2.1 x.2.2.2)
@[simp] theorem c74_f : c74.f = 74 := rfl
@[simp] theorem c74_own : c74.own = false := rfl
theorem c74_inj : ∀ u_ v_ : (List TLetter) × Int × Int × Int, ((fun x => (fun (l : List TLetter) (k : Int) (t : Int) (n : Int) => [encLTLetter l, dI k, dI t, dI n]) x.1 x.2.1 x.2.2.1 x.2.2.2) u_).map nz = ((fun x => (fun (l : List TLetter) (k : Int) (t : Int) (n : Int) => [encLTLetter l, dI k, dI t, dI n]) x.1 x.2.1 x.2.2.1 x.2.2.2) v_).map nz → u_ = v_ := by
  intro u_ v_ h
  obtain ⟨l, k, t, n⟩ := u_
  obtain ⟨l', k', t', n'⟩ := v_
  simp [nz_lit, nz1_lit, nz_agg, nz_sl, nz1_sl, encLTLetter] at h
  first | (simp [h]; done) | (obtain ⟨⟩ := h; simp_all; done) | simp_all
@[simp] theorem c74_fn (l : List TLetter) (k : Int) (t : Int) (n : Int) : c74.fn [.sl false 3 yTLetter (ML encTLetter l), .lit (.int .i64 k), .lit (.int .i64 t), .lit (.int .i64 n)] [] = some ((fun (l : List TLetter) (k : Int) (t : Int) (n : Int) => l.length ≤ 1073741000) l k t n, (fun (l : List TLetter) (k : Int) (t : Int) (n : Int) => (.tup [.own (0, 1) 3 0 (mWrite l ⟨k, t, n⟩).length, dB (mAreLetters (l ++ [⟨k, t, n⟩]))] : D)) l k t n, (fun (l : List TLetter) (k : Int) (t : Int) (n : Int) => [((0, 1), .arr false 3 yTLetter (ML encTLetter (mWrite l ⟨k, t, n⟩)))]) l k t n) :=
  mkCon_fn (fun x y h _ => c74_inj x y h) ((l, k, t, n) : (List TLetter) × Int × Int × Int) (by simp [nz, nz1, ML_nil, encLTLetter]) rfl
@[simp] theorem c74_fn1 (s_l : Nat) (z_l : D) (k : Int) (t : Int) (n : Int) : c74.fn [.sl false s_l z_l [], .lit (.int .i64 k), .lit (.int .i64 t), .lit (.int .i64 n)] [] = some ((fun (l : List TLetter) (k : Int) (t : Int) (n : Int) => l.length ≤ 1073741000) [] k t n, (fun (l : List TLetter) (k : Int) (t : Int) (n : Int) => (.tup [.own (0, 1) 3 0 (mWrite l ⟨k, t, n⟩).length, dB (mAreLetters (l ++ [⟨k, t, n⟩]))] : D)) [] k t n, (fun (l : List TLetter) (k : Int) (t : Int) (n : Int) => [((0, 1), .arr false 3 yTLetter (ML encTLetter (mWrite l ⟨k, t, n⟩)))]) [] k t n) :=
  mkCon_fn (fun x y h _ => c74_inj x y h) (([], k, t, n) : (List TLetter) × Int × Int × Int) (by simp [nz, nz1, ML_nil, encLTLetter]) rfl
theorem c74_pc (l : List TLetter) (k : Int) (t : Int) (n : Int) (hpre : l.length ≤ 1073741000) : PCo Try.prog 74 [encLTLetter l, dI k, dI t, dI n] (Tab.of []) (.tup [.own (0, 1) 3 0 (mWrite l ⟨k, t, n⟩).length, dB (mAreLetters (l ++ [⟨k, t, n⟩]))]) (Tab.of [((0, 1), .arr false 3 yTLetter (ML encTLetter (mWrite l ⟨k, t, n⟩)))]) := by
  refine pco_of_run [] (E := ⟨[c72], []⟩) (m := false) (base := 0) (Env.ok_cons c72_ok Env.ok_nil) G_ok mix 300 6 Try.func74 (by kernel_rfl) rfl (by kernel_rfl) (by kernel_rfl) rfl ?_
  cases h : mAreLetters (l ++ [⟨k, t, n⟩]) with
  | true =>
    simp [Try.f74, h, mWrite_yes h]
    omega
  | false =>
    simp [Try.f74, h, mWrite_no h]
    omega
theorem c74_ok : c74.ok Try.prog := mkCon_ok fun ⟨l, k, t, n⟩ hpre => c74_pc l k t n hpre
/-- loop.example/g03007/laws.FnExactMayWrite -/
theorem law17 (l : List TLetter) (wl : wfLTLetter l) (k : Int) (wk : inR .i64 k) (t : Int) (wt : inR .i64 t) (n : Int) (wn : inR .i64 n) : PCo Try.prog 17 [encLTLetter l, dI k, dI t, dI n] (Tab.of []) (dB true) (Tab.of []) := by
  refine pco_of_run [] (E := ⟨[c65, c67, c69, c72, c73], []⟩) (m := false) (base := 0) (Env.ok_cons c65_ok (Env.ok_cons c67_ok (Env.ok_cons c69_ok (Env.ok_cons c72_ok (Env.ok_cons c73_ok Env.ok_nil))))) G_ok mix 400 6 Try.func17 (by kernel_rfl) rfl (by kernel_rfl) (by kernel_rfl) rfl ?_
  simp (config := {maxSteps := 3000000}) [Try.f17]
  have h_l : l.length ≤ maxLen := wl.1
  repeat' (first | omega | assumption | refine And.intro ?_ ?_ | intro _)
  all_goals first | omega | grind | (split at * <;> omega)
theorem law17_pc (D0 : D) (h0 : Sh G 9 68 D0) (D1 : D) (h1 : Sh G 9 3 D1) (D2 : D) (h2 : Sh G 9 3 D2) (D3 : D) (h3 : Sh G 9 3 D3) : PC Try.prog 17 [D0, D1, D2, D3] (dB true) [] := by
  obtain ⟨l, rfl, wl⟩ := sh68 (n := 6) h0
  obtain ⟨k, rfl, wk⟩ := sh3 (n := 8) h1
  obtain ⟨t, rfl, wt⟩ := sh3 (n := 8) h2
  obtain ⟨n, rfl, wn⟩ := sh3 (n := 8) h3
  exact law17 l wl k wk t wt n wn
/-- loop.example/g03007/laws.FnExactWriteLetter -/
theorem law18 (l : List TLetter) (wl : wfLTLetter l) (k : Int) (wk : inR .i64 k) (t : Int) (wt : inR .i64 t) (n : Int) (wn : inR .i64 n) : PCo Try.prog 18 [encLTLetter l, dI k, dI t, dI n] (Tab.of []) (dB true) (Tab.of []) := by
  refine pco_of_run [] (E := ⟨[c65, c67, c69, c74, c75, c76, c77], []⟩) (m := false) (base := 0) (Env.ok_cons c65_ok (Env.ok_cons c67_ok (Env.ok_cons c69_ok (Env.ok_cons c74_ok (Env.ok_cons c75_ok (Env.ok_cons c76_ok (Env.ok_cons c77_ok Env.ok_nil))))))) G_ok mix 400 6 Try.func18 (by kernel_rfl) rfl (by kernel_rfl) (by kernel_rfl) rfl ?_
  simp (config := {maxSteps := 3000000}) [Try.f18]
  have h1 : l.length ≤ maxLen := wl.1
  have hb := mWrite_len l ⟨k, t, n⟩
  refine ⟨h1, fun h => ?_⟩
  split at h
  · omega
  · repeat' (first | omega | refine And.intro ?_ ?_ | intro _)
theorem law18_pc (D0 : D) (h0 : Sh G 9 68 D0) (D1 : D) (h1 : Sh G 9 3 D1) (D2 : D) (h2 : Sh G 9 3 D2) (D3 : D) (h3 : Sh G 9 3 D3) : PC Try.prog 18 [D0, D1, D2, D3] (dB true) [] := by
  obtain ⟨l, rfl, wl⟩ := sh68 (n := 6) h0
  obtain ⟨k, rfl, wk⟩ := sh3 (n := 8) h1
  obtain ⟨t, rfl, wt⟩ := sh3 (n := 8) h2
  obtain ⟨n, rfl, wn⟩ := sh3 (n := 8) h3
  exact law18 l wl k wk t wt n wn

end Go.Proofs.Ytadbjlnfdjbbjaa
