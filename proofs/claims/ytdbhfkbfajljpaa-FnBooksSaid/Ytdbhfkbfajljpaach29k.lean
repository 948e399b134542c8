/- Contracts of the functions that the laws run. -/
import Derived.Test.Ytdbhfkbfajljpaach29x
import Derived.Test.YtdbhfkbfajljpaaEngB
namespace Go.Proofs.Ytdbhfkbfajljpaa
open Go Go.Eng
set_option linter.unusedSimpArgs false
set_option linter.unusedVariables false
set_option maxRecDepth 10000
set_option maxHeartbeats 1000000
/-- slices.Clone[[]loop.example/g03007/impl.Entr -/
noncomputable def c44 : Con := mkCon 44 false (α := (List TEntry)) (fun x => (fun (l : List TEntry) => [encLTEntry l]) x) (fun _ => []) (fun x => (fun (l : List TEntry) => l.length ≤ 1073741824) x) (fun x => (fun (l : List TEntry) => (.own (0, 1) 4 0 l.length : D)) x) (fun x => (fun (l : List TEntry) => [((0, 1), .arr false 4 yTEntry (ML encTEntry l))]) x)
@[simp] theorem c44_f : c44.f = 44 := rfl
@[simp] theorem c44_own : c44.own = false := rfl
theorem c44_inj : ∀ u_ v_ : (List TEntry), ((fun x => (fun (l : List TEntry) => [encLTEntry l]) x) u_).map nz = ((fun x => (fun (l : List TEntry) => [encLTEntry l]) x) v_).map nz → u_ = v_ := by
  intro u_ v_ h
  obtain l := u_
  obtain l' := v_
  simp [nz_lit, nz1_lit, nz_agg, nz_sl, nz1_sl, encLTEntry] at h
  first | (simp [h]; done) | (obtain ⟨⟩ := h; simp_all; done) | simp_all
@[simp] theorem c44_fn (l : List TEntry) : c44.fn [.sl false 4 yTEntry (ML encTEntry l)] [] = some ((fun (l : List TEntry) => l.length ≤ 1073741824) l, (fun (l : List TEntry) => (.own (0, 1) 4 0 l.length : D)) l, (fun (l : List TEntry) => [((0, 1), .arr false 4 yTEntry (ML encTEntry l))]) l) :=
  mkCon_fn (fun x y h _ => c44_inj x y h) (l : (List TEntry)) (by simp [nz, nz1, ML_nil, encLTEntry]) rfl
@[simp] theorem c44_fn1 (s_l : Nat) (z_l : D) : c44.fn [.sl false s_l z_l []] [] = some ((fun (l : List TEntry) => l.length ≤ 1073741824) [], (fun (l : List TEntry) => (.own (0, 1) 4 0 l.length : D)) [], (fun (l : List TEntry) => [((0, 1), .arr false 4 yTEntry (ML encTEntry l))]) []) :=
  mkCon_fn (fun x y h _ => c44_inj x y h) ([] : (List TEntry)) (by simp [nz, nz1, ML_nil, encLTEntry]) rfl
theorem c44_pc (l : List TEntry) (hpre : l.length ≤ 1073741824) : PCo Try.prog 44 [encLTEntry l] (Tab.of []) (.own (0, 1) 4 0 l.length) (Tab.of [((0, 1), .arr false 4 yTEntry (ML encTEntry l))]) := by
  by_cases hl : l = []
  · subst hl
    show PCo Try.prog 44 [.sl false 4 yTEntry []] Tab.nil (.own (0, 1) 4 0 0) (Tab.of [((0, 1), .arr false 4 yTEntry [])])
    refine pco_slice fun a cap => ?_
    cases a with
    | none =>
      refine pc_ghost (s' := 0) (z' := .any) ?_
      refine pco_of_run [] (tin := []) (E := ⟨[], [], []⟩) (m := false) (base := 0) Env.ok_nil G_ok mix 300 6 Try.func44 (by kernel_rfl) rfl (by kernel_rfl) (by kernel_rfl) rfl ?_
      simp [Try.f44]
    | some q =>
      refine pco_of_run [] (tin := []) (E := ⟨[], [], []⟩) (m := false) (base := 0) Env.ok_nil G_ok mix 300 6 Try.func44 (by kernel_rfl) rfl (by kernel_rfl) (by kernel_rfl) rfl ?_
      simp [Try.f44]
  · refine pco_of_run [] (E := ⟨[], [], []⟩) (m := false) (base := 0) Env.ok_nil G_ok mix 300 6 Try.func44 (by kernel_rfl) rfl (by kernel_rfl) (by kernel_rfl) rfl ?_
    simp [Try.f44, -nilS, nilS_ML hl]
    omega
theorem c44_ok : c44.ok Try.prog := mkCon_ok fun l hpre => c44_pc l hpre
def mAddEntry (l : List TEntry) (x : TEntry) : List TEntry := if mAreEntries (l ++ [x]) then l ++ [x] else l
theorem mAddEntry_yes {l : List TEntry} {x : TEntry} (h : mAreEntries (l ++ [x]) = true) : mAddEntry l x = l ++ [x] := by simp [mAddEntry, h]
theorem mAddEntry_no {l : List TEntry} {x : TEntry} (h : mAreEntries (l ++ [x]) = false) : mAddEntry l x = l := by simp [mAddEntry, h]
theorem mAddEntry_len (l : List TEntry) (x : TEntry) : (mAddEntry l x).length ≤ l.length + 1 := by simp only [mAddEntry]; split <;> simp
/-- loop.example/g03007/impl.AddEntry -/
noncomputable def c29 : Con := mkCon 29 false (α := (List TEntry) × TEntry) (fun x => (fun (l : List TEntry) (x : TEntry) => [encLTEntry l, encTEntry x]) x.1 x.2) (fun _ => []) (fun x => (fun (l : List TEntry) (x : TEntry) => l.length ≤ 1073741823) x.1 x.2) (fun x => (fun (l : List TEntry) (x : TEntry) => (.tup [.own (0, 1) 4 0 (mAddEntry l x).length, dB (mAreEntries (l ++ [x]))] : D)) x.1 x.2) (fun x => (fun (l : List TEntry) (x : TEntry) => [((0, 1), .arr false 4 yTEntry (ML encTEntry (mAddEntry l x)))]) x.1 x.2)
@[simp] theorem c29_f : c29.f = 29 := rfl
@[simp] theorem c29_own : c29.own = false := rfl
theorem c29_inj : ∀ u_ v_ : (List TEntry) × TEntry, ((fun x => (fun (l : List TEntry) (x : TEntry) => [encLTEntry l, encTEntry x]) x.1 x.2) u_).map nz = ((fun x => (fun (l : List TEntry) (x : TEntry) => [encLTEntry l, encTEntry x]) x.1 x.2) v_).map nz → u_ = v_ := by
  intro u_ v_ h
  obtain ⟨l, ⟨x_From, x_To, x_Cents, x_At⟩⟩ := u_
  obtain ⟨l', ⟨x_From', x_To', x_Cents', x_At'⟩⟩ := v_
  simp [nz_lit, nz1_lit, nz_agg, nz_sl, nz1_sl, encLTEntry, encTEntry] at h
  first | (simp [h]; done) | (obtain ⟨⟩ := h; simp_all; done) | simp_all
@[simp] theorem c29_fn (l : List TEntry) (x_From : Int) (x_To : Int) (x_Cents : Int) (x_At : Int) : c29.fn [.sl false 4 yTEntry (ML encTEntry l), .agg [.lit (.int .i64 x_From), .lit (.int .i64 x_To), .lit (.int .i64 x_Cents), .lit (.int .i64 x_At)]] [] = some ((fun (l : List TEntry) (x : TEntry) => l.length ≤ 1073741823) l ⟨x_From, x_To, x_Cents, x_At⟩, (fun (l : List TEntry) (x : TEntry) => (.tup [.own (0, 1) 4 0 (mAddEntry l x).length, dB (mAreEntries (l ++ [x]))] : D)) l ⟨x_From, x_To, x_Cents, x_At⟩, (fun (l : List TEntry) (x : TEntry) => [((0, 1), .arr false 4 yTEntry (ML encTEntry (mAddEntry l x)))]) l ⟨x_From, x_To, x_Cents, x_At⟩) :=
  mkCon_fn (fun x y h _ => c29_inj x y h) ((l, ⟨x_From, x_To, x_Cents, x_At⟩) : (List TEntry) × TEntry) (by simp [nz, nz1, ML_nil, encLTEntry, encTEntry]) rfl
@[simp] theorem c29_fn1 (s_l : Nat) (z_l : D) (x_From : Int) (x_To : Int) (x_Cents : Int) (x_At : Int) : c29.fn [.sl false s_l z_l [], .agg [.lit (.int .i64 x_From), .lit (.int .i64 x_To), .lit (.int .i64 x_Cents), .lit (.int .i64 x_At)]] [] = some ((fun (l : List TEntry) (x : TEntry) => l.length ≤ 1073741823) [] ⟨x_From, x_To, x_Cents, x_At⟩, (fun (l : List TEntry) (x : TEntry) => (.tup [.own (0, 1) 4 0 (mAddEntry l x).length, dB (mAreEntries (l ++ [x]))] : D)) [] ⟨x_From, x_To, x_Cents, x_At⟩, (fun (l : List TEntry) (x : TEntry) => [((0, 1), .arr false 4 yTEntry (ML encTEntry (mAddEntry l x)))]) [] ⟨x_From, x_To, x_Cents, x_At⟩) :=
  mkCon_fn (fun x y h _ => c29_inj x y h) (([], ⟨x_From, x_To, x_Cents, x_At⟩) : (List TEntry) × TEntry) (by simp [nz, nz1, ML_nil, encLTEntry, encTEntry]) rfl
theorem c29_pc (l : List TEntry) (x : TEntry) (hpre : l.length ≤ 1073741823) : PCo Try.prog 29 [encLTEntry l, encTEntry x] (Tab.of []) (.tup [.own (0, 1) 4 0 (mAddEntry l x).length, dB (mAreEntries (l ++ [x]))]) (Tab.of [((0, 1), .arr false 4 yTEntry (ML encTEntry (mAddEntry l x)))]) := by
  refine pco_of_run [1001] (E := ⟨[c25, c44], [], []⟩) (m := false) (base := 0) (Env.ok_cons c25_ok (Env.ok_cons c44_ok Env.ok_nil)) G_ok mix 300 6 Try.func29 (by kernel_rfl) rfl (by kernel_rfl) (by kernel_rfl) rfl ?_
  cases h : mAreEntries (l ++ [x]) with
  | true =>
    simp [Try.f29, h, mAddEntry_yes h]
    repeat' (first | omega | refine And.intro ?_ ?_ | intro _)
  | false =>
    simp [Try.f29, h, mAddEntry_no h]
    repeat' (first | omega | refine And.intro ?_ ?_ | intro _)
theorem c29_ok : c29.ok Try.prog := mkCon_ok fun ⟨l, x⟩ hpre => c29_pc l x hpre
/-- loop.example/g03007/spec.AddEntry -/
noncomputable def c57 : Con := mkCon 57 false (α := (List TEntry) × TEntry) (fun x => (fun (l : List TEntry) (x : TEntry) => [encLTEntry l, encTEntry x]) x.1 x.2) (fun _ => []) (fun x => (fun (l : List TEntry) (x : TEntry) => l.length ≤ 1073741823) x.1 x.2) (fun x => (fun (l : List TEntry) (x : TEntry) => (.tup [.own (0, 1) 4 0 (mAddEntry l x).length, dB (mAreEntries (l ++ [x]))] : D)) x.1 x.2) (fun x => (fun (l : List TEntry) (x : TEntry) => [((0, 1), .arr false 4 yTEntry (ML encTEntry (mAddEntry l x)))]) x.1 x.2)
@[simp] theorem c57_f : c57.f = 57 := rfl
@[simp] theorem c57_own : c57.own = false := rfl
theorem c57_inj : ∀ u_ v_ : (List TEntry) × TEntry, ((fun x => (fun (l : List TEntry) (x : TEntry) => [encLTEntry l, encTEntry x]) x.1 x.2) u_).map nz = ((fun x => (fun (l : List TEntry) (x : TEntry) => [encLTEntry l, encTEntry x]) x.1 x.2) v_).map nz → u_ = v_ := by
  intro u_ v_ h
  obtain ⟨l, ⟨x_From, x_To, x_Cents, x_At⟩⟩ := u_
  obtain ⟨l', ⟨x_From', x_To', x_Cents', x_At'⟩⟩ := v_
  simp [nz_lit, nz1_lit, nz_agg, nz_sl, nz1_sl, encLTEntry, encTEntry] at h
  first | (simp [h]; done) | (obtain ⟨⟩ := h; simp_all; done) | simp_all
@[simp] theorem c57_fn (l : List TEntry) (x_From : Int) (x_To : Int) (x_Cents : Int) (x_At : Int) : c57.fn [.sl false 4 yTEntry (ML encTEntry l), .agg [.lit (.int .i64 x_From), .lit (.int .i64 x_To), .lit (.int .i64 x_Cents), .lit (.int .i64 x_At)]] [] = some ((fun (l : List TEntry) (x : TEntry) => l.length ≤ 1073741823) l ⟨x_From, x_To, x_Cents, x_At⟩, (fun (l : List TEntry) (x : TEntry) => (.tup [.own (0, 1) 4 0 (mAddEntry l x).length, dB (mAreEntries (l ++ [x]))] : D)) l ⟨x_From, x_To, x_Cents, x_At⟩, (fun (l : List TEntry) (x : TEntry) => [((0, 1), .arr false 4 yTEntry (ML encTEntry (mAddEntry l x)))]) l ⟨x_From, x_To, x_Cents, x_At⟩) :=
  mkCon_fn (fun x y h _ => c57_inj x y h) ((l, ⟨x_From, x_To, x_Cents, x_At⟩) : (List TEntry) × TEntry) (by simp [nz, nz1, ML_nil, encLTEntry, encTEntry]) rfl
@[simp] theorem c57_fn1 (s_l : Nat) (z_l : D) (x_From : Int) (x_To : Int) (x_Cents : Int) (x_At : Int) : c57.fn [.sl false s_l z_l [], .agg [.lit (.int .i64 x_From), .lit (.int .i64 x_To), .lit (.int .i64 x_Cents), .lit (.int .i64 x_At)]] [] = some ((fun (l : List TEntry) (x : TEntry) => l.length ≤ 1073741823) [] ⟨x_From, x_To, x_Cents, x_At⟩, (fun (l : List TEntry) (x : TEntry) => (.tup [.own (0, 1) 4 0 (mAddEntry l x).length, dB (mAreEntries (l ++ [x]))] : D)) [] ⟨x_From, x_To, x_Cents, x_At⟩, (fun (l : List TEntry) (x : TEntry) => [((0, 1), .arr false 4 yTEntry (ML encTEntry (mAddEntry l x)))]) [] ⟨x_From, x_To, x_Cents, x_At⟩) :=
  mkCon_fn (fun x y h _ => c57_inj x y h) (([], ⟨x_From, x_To, x_Cents, x_At⟩) : (List TEntry) × TEntry) (by simp [nz, nz1, ML_nil, encLTEntry, encTEntry]) rfl
theorem c57_pc (l : List TEntry) (x : TEntry) (hpre : l.length ≤ 1073741823) : PCo Try.prog 57 [encLTEntry l, encTEntry x] (Tab.of []) (.tup [.own (0, 1) 4 0 (mAddEntry l x).length, dB (mAreEntries (l ++ [x]))]) (Tab.of [((0, 1), .arr false 4 yTEntry (ML encTEntry (mAddEntry l x)))]) := by
  refine pco_of_run [1001] (E := ⟨[c66], [], []⟩) (m := false) (base := 0) (Env.ok_cons c66_ok Env.ok_nil) G_ok mix 300 6 Try.func57 (by kernel_rfl) rfl (by kernel_rfl) (by kernel_rfl) rfl ?_
  cases h : mAreEntries (l ++ [x]) with
  | true =>
    simp [Try.f57, h, mAddEntry_yes h]
    repeat' (first | omega | refine And.intro ?_ ?_ | intro _)
  | false =>
    simp [Try.f57, h, mAddEntry_no h]
    repeat' (first | omega | refine And.intro ?_ ?_ | intro _)
theorem c57_ok : c57.ok Try.prog := mkCon_ok fun ⟨l, x⟩ hpre => c57_pc l x hpre

end Go.Proofs.Ytdbhfkbfajljpaa
