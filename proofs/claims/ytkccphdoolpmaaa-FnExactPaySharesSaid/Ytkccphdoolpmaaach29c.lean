/- Contracts of the functions that the laws run. -/
import Derived.Test.Ytkccphdoolpmaaach29
import Derived.Test.YtkccphdoolpmaaaEngB
namespace Go.Proofs.Ytkccphdoolpmaaa
open Go Go.Eng
set_option linter.unusedSimpArgs false
set_option linter.unusedVariables false
set_option maxRecDepth 10000
set_option maxHeartbeats 1000000
/-- slices.Clone[[]loop.example/g03007/impl.Entr -/
noncomputable def c122 : Con := mkCon 122 false (α := (List TEntry)) (fun x => (fun (l : List TEntry) => [encLTEntry l]) x) (fun _ => []) (fun x => (fun (l : List TEntry) => l.length ≤ 1073741824) x) (fun x => (fun (l : List TEntry) => (.own (0, 1) 4 0 l.length : D)) x) (fun x => (fun (l : List TEntry) => [((0, 1), .arr false 4 yTEntry (ML encTEntry l))]) x)
@[simp] theorem c122_f : c122.f = 122 := rfl
@[simp] theorem c122_own : c122.own = false := rfl
theorem c122_inj : ∀ u_ v_ : (List TEntry), ((fun x => (fun (l : List TEntry) => [encLTEntry l]) x) u_).map nz = ((fun x => (fun (l : List TEntry) => [encLTEntry l]) x) v_).map nz → u_ = v_ := by
  intro u_ v_ h
  obtain l := u_
  obtain l' := v_
  simp [nz_lit, nz1_lit, nz_agg, nz_sl, nz1_sl, encLTEntry] at h
  first | (simp [h]; done) | (obtain ⟨⟩ := h; simp_all; done) | simp_all
@[simp] theorem c122_fn (l : List TEntry) : c122.fn [.sl false 4 yTEntry (ML encTEntry l)] [] = some ((fun (l : List TEntry) => l.length ≤ 1073741824) l, (fun (l : List TEntry) => (.own (0, 1) 4 0 l.length : D)) l, (fun (l : List TEntry) => [((0, 1), .arr false 4 yTEntry (ML encTEntry l))]) l) :=
  mkCon_fn (fun x y h _ => c122_inj x y h) (l : (List TEntry)) (by simp [nz, nz1, ML_nil, encLTEntry]) rfl
@[simp] theorem c122_fn1 (s_l : Nat) (z_l : D) : c122.fn [.sl false s_l z_l []] [] = some ((fun (l : List TEntry) => l.length ≤ 1073741824) [], (fun (l : List TEntry) => (.own (0, 1) 4 0 l.length : D)) [], (fun (l : List TEntry) => [((0, 1), .arr false 4 yTEntry (ML encTEntry l))]) []) :=
  mkCon_fn (fun x y h _ => c122_inj x y h) ([] : (List TEntry)) (by simp [nz, nz1, ML_nil, encLTEntry]) rfl
theorem c122_pc (l : List TEntry) (hpre : l.length ≤ 1073741824) : PCo Try.prog 122 [encLTEntry l] (Tab.of []) (.own (0, 1) 4 0 l.length) (Tab.of [((0, 1), .arr false 4 yTEntry (ML encTEntry l))]) := by
  by_cases hl : l = []
  · subst hl
    show PCo Try.prog 122 [.sl false 4 yTEntry []] Tab.nil (.own (0, 1) 4 0 0) (Tab.of [((0, 1), .arr false 4 yTEntry [])])
    refine pco_slice fun a cap => ?_
    cases a with
    | none =>
      refine pc_ghost (s' := 0) (z' := .any) ?_
      refine pco_of_run [] (tin := []) (E := ⟨[], []⟩) (m := false) (base := 0) Env.ok_nil G_ok mix 300 6 Try.func122 (by kernel_rfl) rfl (by kernel_rfl) (by kernel_rfl) rfl ?_
      simp [Try.f122]
    | some q =>
      refine pco_of_run [] (tin := []) (E := ⟨[], []⟩) (m := false) (base := 0) Env.ok_nil G_ok mix 300 6 Try.func122 (by kernel_rfl) rfl (by kernel_rfl) (by kernel_rfl) rfl ?_
      simp [Try.f122]
  · refine pco_of_run [] (E := ⟨[], []⟩) (m := false) (base := 0) Env.ok_nil G_ok mix 300 6 Try.func122 (by kernel_rfl) rfl (by kernel_rfl) (by kernel_rfl) rfl ?_
    simp [Try.f122, -nilS, nilS_ML hl]
    omega
theorem c122_ok : c122.ok Try.prog := mkCon_ok fun l hpre => c122_pc l hpre
def mAddEntry (l : List TEntry) (x : TEntry) : List TEntry := if mAreEntries (l ++ [x]) then l ++ [x] else l
theorem mAddEntry_yes {l : List TEntry} {x : TEntry} (h : mAreEntries (l ++ [x]) = true) : mAddEntry l x = l ++ [x] := by simp [mAddEntry, h]
theorem mAddEntry_no {l : List TEntry} {x : TEntry} (h : mAreEntries (l ++ [x]) = false) : mAddEntry l x = l := by simp [mAddEntry, h]
theorem mAddEntry_len (l : List TEntry) (x : TEntry) : (mAddEntry l x).length ≤ l.length + 1 := by simp only [mAddEntry]; split <;> simp
/-- loop.example/g03007/impl.AddEntry -/
noncomputable def c70 : Con := mkCon 70 false (α := (List TEntry) × TEntry) (fun x => (fun (l : List TEntry) (x : TEntry) => [encLTEntry l, encTEntry x]) x.1 x.2) (fun _ => []) (fun x => (fun (l : List TEntry) (x : TEntry) => l.length ≤ 1073741823) x.1 x.2) (fun x => (fun (l : List TEntry) (x : TEntry) => (.tup [.own (0, 1) 4 0 (mAddEntry l x).length, dB (mAreEntries (l ++ [x]))] : D)) x.1 x.2) (fun x => (fun (l : List TEntry) (x : TEntry) => [((0, 1), .arr false 4 yTEntry (ML encTEntry (mAddEntry l x)))]) x.1 x.2)
@[simp] theorem c70_f : c70.f = 70 := rfl
@[simp] theorem c70_own : c70.own = false := rfl
theorem c70_inj : ∀ u_ v_ : (List TEntry) × TEntry, ((fun x => (fun (l : List TEntry) (x : TEntry) => [encLTEntry l, encTEntry x]) x.1 x.2) u_).map nz = ((fun x => (fun (l : List TEntry) (x : TEntry) => [encLTEntry l, encTEntry x]) x.1 x.2) v_).map nz → u_ = v_ := by
  intro u_ v_ h
  obtain ⟨l, ⟨x_From, x_To, x_Cents, x_At⟩⟩ := u_
  obtain ⟨l', ⟨x_From', x_To', x_Cents', x_At'⟩⟩ := v_
  simp [nz_lit, nz1_lit, nz_agg, nz_sl, nz1_sl, encLTEntry, encTEntry] at h
  first | (simp [h]; done) | (obtain ⟨⟩ := h; simp_all; done) | simp_all
@[simp] theorem c70_fn (l : List TEntry) (x_From : Int) (x_To : Int) (x_Cents : Int) (x_At : Int) : c70.fn [.sl false 4 yTEntry (ML encTEntry l), .agg [.lit (.int .i64 x_From), .lit (.int .i64 x_To), .lit (.int .i64 x_Cents), .lit (.int .i64 x_At)]] [] = some ((fun (l : List TEntry) (x : TEntry) => l.length ≤ 1073741823) l ⟨x_From, x_To, x_Cents, x_At⟩, (fun (l : List TEntry) (x : TEntry) => (.tup [.own (0, 1) 4 0 (mAddEntry l x).length, dB (mAreEntries (l ++ [x]))] : D)) l ⟨x_From, x_To, x_Cents, x_At⟩, (fun (l : List TEntry) (x : TEntry) => [((0, 1), .arr false 4 yTEntry (ML encTEntry (mAddEntry l x)))]) l ⟨x_From, x_To, x_Cents, x_At⟩) :=
  mkCon_fn (fun x y h _ => c70_inj x y h) ((l, ⟨x_From, x_To, x_Cents, x_At⟩) : (List TEntry) × TEntry) (by simp [nz, nz1, ML_nil, encLTEntry, encTEntry]) rfl
@[simp] theorem c70_fn1 (s_l : Nat) (z_l : D) (x_From : Int) (x_To : Int) (x_Cents : Int) (x_At : Int) : c70.fn [.sl false s_l z_l [], .agg [.lit (.int .i64 x_From), .lit (.int .i64 x_To), .lit (.int .i64 x_Cents), .lit (.int .i64 x_At)]] [] = some ((fun (l : List TEntry) (x : TEntry) => l.length ≤ 1073741823) [] ⟨x_From, x_To, x_Cents, x_At⟩, (fun (l : List TEntry) (x : TEntry) => (.tup [.own (0, 1) 4 0 (mAddEntry l x).length, dB (mAreEntries (l ++ [x]))] : D)) [] ⟨x_From, x_To, x_Cents, x_At⟩, (fun (l : List TEntry) (x : TEntry) => [((0, 1), .arr false 4 yTEntry (ML encTEntry (mAddEntry l x)))]) [] ⟨x_From, x_To, x_Cents, x_At⟩) :=
  mkCon_fn (fun x y h _ => c70_inj x y h) (([], ⟨x_From, x_To, x_Cents, x_At⟩) : (List TEntry) × TEntry) (by simp [nz, nz1, ML_nil, encLTEntry, encTEntry]) rfl
theorem c70_pc (l : List TEntry) (x : TEntry) (hpre : l.length ≤ 1073741823) : PCo Try.prog 70 [encLTEntry l, encTEntry x] (Tab.of []) (.tup [.own (0, 1) 4 0 (mAddEntry l x).length, dB (mAreEntries (l ++ [x]))]) (Tab.of [((0, 1), .arr false 4 yTEntry (ML encTEntry (mAddEntry l x)))]) := by
  refine pco_of_run [1001] (E := ⟨[c122, c123], []⟩) (m := false) (base := 0) (Env.ok_cons c122_ok (Env.ok_cons c123_ok Env.ok_nil)) G_ok mix 300 6 Try.func70 (by kernel_rfl) rfl (by kernel_rfl) (by kernel_rfl) rfl ?_
  cases h : mAreEntries (l ++ [x]) with
  | true =>
    simp [Try.f70, h, mAddEntry_yes h]
    repeat' (first | omega | refine And.intro ?_ ?_ | intro _)
  | false =>
    simp [Try.f70, h, mAddEntry_no h]
    repeat' (first | omega | refine And.intro ?_ ?_ | intro _)
theorem c70_ok : c70.ok Try.prog := mkCon_ok fun ⟨l, x⟩ hpre => c70_pc l x hpre
/-- loop.example/g03007/spec.AddEntry -/
noncomputable def c67 : Con := mkCon 67 false (α := (List TEntry) × TEntry) (fun x => (fun (l : List TEntry) (x : TEntry) => [encLTEntry l, encTEntry x]) x.1 x.2) (fun _ => []) (fun x => (fun (l : List TEntry) (x : TEntry) => l.length ≤ 1073741823) x.1 x.2) (fun x => (fun (l : List TEntry) (x : TEntry) => (.tup [.own (0, 1) 4 0 (mAddEntry l x).length, dB (mAreEntries (l ++ [x]))] : D)) x.1 x.2) (fun x => (fun (l : List TEntry) (x : TEntry) => [((0, 1), .arr false 4 yTEntry (ML encTEntry (mAddEntry l x)))]) x.1 x.2)
@[simp] theorem c67_f : c67.f = 67 := rfl
@[simp] theorem c67_own : c67.own = false := rfl
theorem c67_inj : ∀ u_ v_ : (List TEntry) × TEntry, ((fun x => (fun (l : List TEntry) (x : TEntry) => [encLTEntry l, encTEntry x]) x.1 x.2) u_).map nz = ((fun x => (fun (l : List TEntry) (x : TEntry) => [encLTEntry l, encTEntry x]) x.1 x.2) v_).map nz → u_ = v_ := by
  intro u_ v_ h
  obtain ⟨l, ⟨x_From, x_To, x_Cents, x_At⟩⟩ := u_
  obtain ⟨l', ⟨x_From', x_To', x_Cents', x_At'⟩⟩ := v_
  simp [nz_lit, nz1_lit, nz_agg, nz_sl, nz1_sl, encLTEntry, encTEntry] at h
  first | (simp [h]; done) | (obtain ⟨⟩ := h; simp_all; done) | simp_all
@[simp] theorem c67_fn (l : List TEntry) (x_From : Int) (x_To : Int) (x_Cents : Int) (x_At : Int) : c67.fn [.sl false 4 yTEntry (ML encTEntry l), .agg [.lit (.int .i64 x_From), .lit (.int .i64 x_To), .lit (.int .i64 x_Cents), .lit (.int .i64 x_At)]] [] = some ((fun (l : List TEntry) (x : TEntry) => l.length ≤ 1073741823) l ⟨x_From, x_To, x_Cents, x_At⟩, (fun (l : List TEntry) (x : TEntry) => (.tup [.own (0, 1) 4 0 (mAddEntry l x).length, dB (mAreEntries (l ++ [x]))] : D)) l ⟨x_From, x_To, x_Cents, x_At⟩, (fun (l : List TEntry) (x : TEntry) => [((0, 1), .arr false 4 yTEntry (ML encTEntry (mAddEntry l x)))]) l ⟨x_From, x_To, x_Cents, x_At⟩) :=
  mkCon_fn (fun x y h _ => c67_inj x y h) ((l, ⟨x_From, x_To, x_Cents, x_At⟩) : (List TEntry) × TEntry) (by simp [nz, nz1, ML_nil, encLTEntry, encTEntry]) rfl
@[simp] theorem c67_fn1 (s_l : Nat) (z_l : D) (x_From : Int) (x_To : Int) (x_Cents : Int) (x_At : Int) : c67.fn [.sl false s_l z_l [], .agg [.lit (.int .i64 x_From), .lit (.int .i64 x_To), .lit (.int .i64 x_Cents), .lit (.int .i64 x_At)]] [] = some ((fun (l : List TEntry) (x : TEntry) => l.length ≤ 1073741823) [] ⟨x_From, x_To, x_Cents, x_At⟩, (fun (l : List TEntry) (x : TEntry) => (.tup [.own (0, 1) 4 0 (mAddEntry l x).length, dB (mAreEntries (l ++ [x]))] : D)) [] ⟨x_From, x_To, x_Cents, x_At⟩, (fun (l : List TEntry) (x : TEntry) => [((0, 1), .arr false 4 yTEntry (ML encTEntry (mAddEntry l x)))]) [] ⟨x_From, x_To, x_Cents, x_At⟩) :=
  mkCon_fn (fun x y h _ => c67_inj x y h) (([], ⟨x_From, x_To, x_Cents, x_At⟩) : (List TEntry) × TEntry) (by simp [nz, nz1, ML_nil, encLTEntry, encTEntry]) rfl
theorem c67_pc (l : List TEntry) (x : TEntry) (hpre : l.length ≤ 1073741823) : PCo Try.prog 67 [encLTEntry l, encTEntry x] (Tab.of []) (.tup [.own (0, 1) 4 0 (mAddEntry l x).length, dB (mAreEntries (l ++ [x]))]) (Tab.of [((0, 1), .arr false 4 yTEntry (ML encTEntry (mAddEntry l x)))]) := by
  refine pco_of_run [1001] (E := ⟨[c121], []⟩) (m := false) (base := 0) (Env.ok_cons c121_ok Env.ok_nil) G_ok mix 300 6 Try.func67 (by kernel_rfl) rfl (by kernel_rfl) (by kernel_rfl) rfl ?_
  cases h : mAreEntries (l ++ [x]) with
  | true =>
    simp [Try.f67, h, mAddEntry_yes h]
    repeat' (first | omega | refine And.intro ?_ ?_ | intro _)
  | false =>
    simp [Try.f67, h, mAddEntry_no h]
    repeat' (first | omega | refine And.intro ?_ ?_ | intro _)
theorem c67_ok : c67.ok Try.prog := mkCon_ok fun ⟨l, x⟩ hpre => c67_pc l x hpre
/-- loop.example/g03007/laws.FnExactAddEntry -/
theorem law12 (l : List TEntry) (wl : wfLTEntry l) (x : TEntry) (wx : wfTEntry x) : PCo Try.prog 12 [encLTEntry l, encTEntry x] (Tab.of []) (dB true) (Tab.of []) := by
  obtain ⟨x_From, x_To, x_Cents, x_At⟩ := x
  refine pco_of_run [1005, 1024, 2000066, 2000067, 2000070, 2000071, 2000072, 2000073] (E := ⟨[c66, c67, c68, c69, c70, c71, c72, c73], []⟩) (m := false) (base := 0) (Env.ok_cons c66_ok (Env.ok_cons c67_ok (Env.ok_cons c68_ok (Env.ok_cons c69_ok (Env.ok_cons c70_ok (Env.ok_cons c71_ok (Env.ok_cons c72_ok (Env.ok_cons c73_ok Env.ok_nil)))))))) G_ok mix 400 6 Try.func12 (by kernel_rfl) rfl (by kernel_rfl) (by kernel_rfl) rfl ?_
  simp [Try.f12]
  have h1 : l.length ≤ maxLen := wl.1
  have hb := mAddEntry_len l ⟨x_From, x_To, x_Cents, x_At⟩
  refine ⟨h1, fun h => ?_⟩
  split at h
  · omega
  · repeat' (first | omega | refine And.intro ?_ ?_ | intro _)
theorem law12_pc (D0 : D) (h0 : Sh G 9 94 D0) (D1 : D) (h1 : Sh G 9 96 D1) : PC Try.prog 12 [D0, D1] (dB true) [] := by
  obtain ⟨l, rfl, wl⟩ := sh94 (n := 6) h0
  obtain ⟨x, rfl, wx⟩ := sh96 (n := 7) h1
  exact law12 l wl x wx

end Go.Proofs.Ytkccphdoolpmaaa
