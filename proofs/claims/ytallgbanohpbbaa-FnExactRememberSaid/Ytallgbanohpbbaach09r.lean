/- Contracts of the functions that the laws run. -/
import Derived.Test.Ytallgbanohpbbaach09d
import Derived.Test.Ytallgbanohpbbaaasc9
import Derived.Test.Ytallgbanohpbbaach07p
import Derived.Test.YtallgbanohpbbaaEngB
namespace Go.Proofs.Ytallgbanohpbbaa
open Go Go.Eng
set_option linter.unusedSimpArgs false
set_option linter.unusedVariables false
set_option maxRecDepth 10000
set_option maxHeartbeats 1000000
theorem ascW_asc {hi : Int} : ∀ {l : List Int} {lo : Int}, ascW hi lo l = true → (∀ x ∈ l, lo ≤ x) ∧ l.Pairwise (· < ·)
  | [], _, _ => ⟨by simp, .nil⟩
  | x :: r, lo, h => by
    simp only [ascW, Bool.and_eq_true] at h
    have h1 := mIn_iff.1 h.1
    have h2 := ascW_asc h.2
    refine ⟨fun y hy => ?_, List.pairwise_cons.2 ⟨fun y hy => by have := h2.1 y hy; omega, h2.2⟩⟩
    rcases List.mem_cons.1 hy with rfl | hy
    · omega
    · have := h2.1 y hy; omega
theorem fold_self {l : List Int} (h : l.Pairwise (· < ·)) : l.foldl putI [] = l := by
  have h1 := foldP l [] List.Pairwise.nil
  exact asc_ext h1.1 h fun w => by rw [h1.2.1 w]; simp
theorem join_once {a b : List Int} (h : a.Pairwise (· < ·)) : b.foldl putI a = mOnce a b := by
  rw [← once_fold, List.foldl_append, fold_self h]
theorem put_once {a : List Int} {n : Int} (h : a.Pairwise (· < ·)) : putI a n = mOnce a [n] := by
  rw [← join_once h]; rfl
theorem doubt_asc {d : TDoubt} (h : mIsDoubt d = true) : d.Colours.Pairwise (· < ·) ∧ d.Places.Pairwise (· < ·) := by
  simp only [mIsDoubt, Bool.and_eq_true] at h
  exact ⟨(ascW_asc h.1.1.1.1).2, (ascW_asc h.1.2).2⟩
/-- loop.example/g03007/impl.ascendingOnce -/
noncomputable def c32f : Con := mkCon 32 false (α := (List Int) × (List Int)) (fun x => (fun (l : List Int) (m : List Int) => [encLI l, encLI m]) x.1 x.2) (fun _ => []) (fun x => (fun (l : List Int) (m : List Int) => l.length ≤ 1073741824 ∧ m.length ≤ 1073741824) x.1 x.2) (fun x => (fun (l : List Int) (m : List Int) => (encLI (mOnce l m) : D)) x.1 x.2) (fun x => (fun (l : List Int) (m : List Int) => []) x.1 x.2)
@[simp] theorem c32f_f : c32f.f = 32 := rfl
@[simp] theorem c32f_own : c32f.own = false := rfl
theorem c32f_inj : ∀ u_ v_ : (List Int) × (List Int), ((fun x => (fun (l : List Int) (m : List Int) => [encLI l, encLI m]) x.1 x.2) u_).map nz = ((fun x => (fun (l : List Int) (m : List Int) => [encLI l, encLI m]) x.1 x.2) v_).map nz → u_ = v_ := by
  intro u_ v_ h
  obtain ⟨l, m⟩ := u_
  obtain ⟨l', m'⟩ := v_
  simp [nz_lit, nz1_lit, nz_agg, nz_sl, nz1_sl, encLI] at h
  first | (simp [h]; done) | (obtain ⟨⟩ := h; simp_all; done) | simp_all
@[simp] theorem c32f_fn (l : List Int) (m : List Int) : c32f.fn [.sl false 1 (.lit (.int .i64 0)) (ML dI l), .sl false 1 (.lit (.int .i64 0)) (ML dI m)] [] = some ((fun (l : List Int) (m : List Int) => l.length ≤ 1073741824 ∧ m.length ≤ 1073741824) l m, (fun (l : List Int) (m : List Int) => (encLI (mOnce l m) : D)) l m, (fun (l : List Int) (m : List Int) => []) l m) :=
  mkCon_fn (fun x y h _ => c32f_inj x y h) ((l, m) : (List Int) × (List Int)) (by simp [nz, nz1, ML_nil, encLI]) rfl
@[simp] theorem c32f_fn1 (s_l : Nat) (z_l : D) (m : List Int) : c32f.fn [.sl false s_l z_l [], .sl false 1 (.lit (.int .i64 0)) (ML dI m)] [] = some ((fun (l : List Int) (m : List Int) => l.length ≤ 1073741824 ∧ m.length ≤ 1073741824) [] m, (fun (l : List Int) (m : List Int) => (encLI (mOnce l m) : D)) [] m, (fun (l : List Int) (m : List Int) => []) [] m) :=
  mkCon_fn (fun x y h _ => c32f_inj x y h) (([], m) : (List Int) × (List Int)) (by simp [nz, nz1, ML_nil, encLI]) rfl
@[simp] theorem c32f_fn2 (l : List Int) (s_m : Nat) (z_m : D) : c32f.fn [.sl false 1 (.lit (.int .i64 0)) (ML dI l), .sl false s_m z_m []] [] = some ((fun (l : List Int) (m : List Int) => l.length ≤ 1073741824 ∧ m.length ≤ 1073741824) l [], (fun (l : List Int) (m : List Int) => (encLI (mOnce l m) : D)) l [], (fun (l : List Int) (m : List Int) => []) l []) :=
  mkCon_fn (fun x y h _ => c32f_inj x y h) ((l, []) : (List Int) × (List Int)) (by simp [nz, nz1, ML_nil, encLI]) rfl
@[simp] theorem c32f_fn3 (s_l : Nat) (z_l : D) (s_m : Nat) (z_m : D) : c32f.fn [.sl false s_l z_l [], .sl false s_m z_m []] [] = some ((fun (l : List Int) (m : List Int) => l.length ≤ 1073741824 ∧ m.length ≤ 1073741824) [] [], (fun (l : List Int) (m : List Int) => (encLI (mOnce l m) : D)) [] [], (fun (l : List Int) (m : List Int) => []) [] []) :=
  mkCon_fn (fun x y h _ => c32f_inj x y h) (([], []) : (List Int) × (List Int)) (by simp [nz, nz1, ML_nil, encLI]) rfl
theorem c32f_pc (l : List Int) (m : List Int) (hpre : l.length ≤ 1073741824 ∧ m.length ≤ 1073741824) : PCo Try.prog 32 [encLI l, encLI m] (Tab.of []) (encLI (mOnce l m)) (Tab.of []) := by
  refine pco_of_run [] (E := ⟨[c55, c56, c57], [], []⟩) (m := false) (base := 0) (Env.ok_cons c55_ok (Env.ok_cons c56_ok (Env.ok_cons c57_ok Env.ok_nil))) G_ok mix 300 6 Try.func32 (by kernel_rfl) rfl (by kernel_rfl) (by kernel_rfl) rfl ?_
  simp [Try.f32]
  have hl : (mOnce l m).length ≤ (mOnceT l m).length := by simp [mOnceT]
  have ht : (mOnceT l m).take (mOnce l m).length = mOnce l m := by simp [mOnceT]
  refine ⟨hpre, by omega, by omega, hl, ?_⟩
  split
  · rename_i h; rw [← ht, h, List.take_length]
  · exact ht
theorem c32f_ok : c32f.ok Try.prog := mkCon_ok fun ⟨l, m⟩ hpre => c32f_pc l m hpre
@[simp] theorem once1 (l : List Int) (n : Int) : c32f.fn [.sl false 1 (.lit (.int .i64 0)) (ML dI l), .sl false 1 (.lit (.int .i64 0)) [.lit (.int .i64 n)]] [] = some (l.length ≤ 1073741824 ∧ ([n] : List Int).length ≤ 1073741824, .sl false 1 (.lit (.int .i64 0)) (ML dI (mOnce l [n])), []) := c32f_fn l [n]
def rmD (f : TFind) (d : TDoubt) (id : Int) : TReport := ⟨id, f.Thing.Kind, mOnce d.Colours [f.Thing.Colour], max (f.Thing.Size - d.Size) 1, min (f.Thing.Size + d.Size) 50, mOnce d.Places [f.Place], ⟨max (f.At - d.Hours) 0, f.At⟩⟩
def rmOk (f : TFind) (d : TDoubt) (id : Int) : Bool := mIsFind f && mIsDoubt d && mIsReport (rmD f d id)
def rmR (f : TFind) (d : TDoubt) (id : Int) : TReport := if rmOk f d id then rmD f d id else ⟨0, 0, [], 0, 0, [], ⟨0, 0⟩⟩
@[simp] def smJ (r : TDoubt) : Prop := r.Colours.length ≤ 500000000 ∧ r.Places.length ≤ 500000000
theorem find_bd {f : TFind} (h : mIsFind f = true) : 1 ≤ f.Thing.Size ∧ f.Thing.Size ≤ 50 ∧ 0 ≤ f.At ∧ f.At ≤ 100000 := by
  simp only [mIsFind, mIsThing, Bool.and_eq_true, mIn_iff] at h
  omega
theorem doubt_bd {d : TDoubt} (h : mIsDoubt d = true) : 0 ≤ d.Size ∧ d.Size ≤ 50 ∧ 0 ≤ d.Hours ∧ d.Hours ≤ 1000 := by
  simp only [mIsDoubt, Bool.and_eq_true, mIn_iff] at h
  omega
/-- loop.example/g03007/impl.Remember -/
noncomputable def c9 : Con := mkCon 9 false (α := TFind × TDoubt × Int) (fun x => (fun (f : TFind) (d : TDoubt) (id : Int) => [encTFind f, encTDoubt d, dI id]) x.1 x.2.1 x.2.2) (fun _ => []) (fun x => (fun (f : TFind) (d : TDoubt) (id : Int) => smJ d) x.1 x.2.1 x.2.2) (fun x => (fun (f : TFind) (d : TDoubt) (id : Int) => (.tup [.agg [dI (rmR f d id).Id, dI (rmR f d id).Kind, .own (0, 1) 1 0 (rmR f d id).Colours.length, dI (rmR f d id).SizeLow, dI (rmR f d id).SizeHigh, .own (1, 1) 1 0 (rmR f d id).Places.length, dI (rmR f d id).Span.From, dI (rmR f d id).Span.Until], dB (rmOk f d id)] : D)) x.1 x.2.1 x.2.2) (fun x => (fun (f : TFind) (d : TDoubt) (id : Int) => [((0, 1), .arr false 1 (dI 0) (ML dI (rmR f d id).Colours)), ((1, 1), .arr false 1 (dI 0) (ML dI (rmR f d id).Places))]) x.1 x.2.1 x.2.2)
@[simp] theorem c9_f : c9.f = 9 := rfl
@[simp] theorem c9_own : c9.own = false := rfl
theorem c9_inj : ∀ u_ v_ : TFind × TDoubt × Int, ((fun x => (fun (f : TFind) (d : TDoubt) (id : Int) => [encTFind f, encTDoubt d, dI id]) x.1 x.2.1 x.2.2) u_).map nz = ((fun x => (fun (f : TFind) (d : TDoubt) (id : Int) => [encTFind f, encTDoubt d, dI id]) x.1 x.2.1 x.2.2) v_).map nz → u_ = v_ := by
  intro u_ v_ h
  obtain ⟨⟨⟨f_Thing_Id, f_Thing_Kind, f_Thing_Colour, f_Thing_Size, f_Thing_Worth⟩, f_Place, f_At, f_Finder⟩, ⟨d_Colours, d_Size, d_Places, d_Hours⟩, id⟩ := u_
  obtain ⟨⟨⟨f_Thing_Id', f_Thing_Kind', f_Thing_Colour', f_Thing_Size', f_Thing_Worth'⟩, f_Place', f_At', f_Finder'⟩, ⟨d_Colours', d_Size', d_Places', d_Hours'⟩, id'⟩ := v_
  simp [nz_lit, nz1_lit, nz_agg, nz_sl, nz1_sl, encLI, encTDoubt, encTFind, encTThing] at h
  first | (simp [h]; done) | (obtain ⟨⟩ := h; simp_all; done) | simp_all
@[simp] theorem c9_fn (f_Thing_Id : Int) (f_Thing_Kind : Int) (f_Thing_Colour : Int) (f_Thing_Size : Int) (f_Thing_Worth : Int) (f_Place : Int) (f_At : Int) (f_Finder : Int) (d_Colours : List Int) (d_Size : Int) (d_Places : List Int) (d_Hours : Int) (id : Int) : c9.fn [.agg [.lit (.int .i64 f_Thing_Id), .lit (.int .i64 f_Thing_Kind), .lit (.int .i64 f_Thing_Colour), .lit (.int .i64 f_Thing_Size), .lit (.int .i64 f_Thing_Worth), .lit (.int .i64 f_Place), .lit (.int .i64 f_At), .lit (.int .i64 f_Finder)], .agg [.sl false 1 (.lit (.int .i64 0)) (ML dI d_Colours), .lit (.int .i64 d_Size), .sl false 1 (.lit (.int .i64 0)) (ML dI d_Places), .lit (.int .i64 d_Hours)], .lit (.int .i64 id)] [] = some ((fun (f : TFind) (d : TDoubt) (id : Int) => smJ d) ⟨⟨f_Thing_Id, f_Thing_Kind, f_Thing_Colour, f_Thing_Size, f_Thing_Worth⟩, f_Place, f_At, f_Finder⟩ ⟨d_Colours, d_Size, d_Places, d_Hours⟩ id, (fun (f : TFind) (d : TDoubt) (id : Int) => (.tup [.agg [dI (rmR f d id).Id, dI (rmR f d id).Kind, .own (0, 1) 1 0 (rmR f d id).Colours.length, dI (rmR f d id).SizeLow, dI (rmR f d id).SizeHigh, .own (1, 1) 1 0 (rmR f d id).Places.length, dI (rmR f d id).Span.From, dI (rmR f d id).Span.Until], dB (rmOk f d id)] : D)) ⟨⟨f_Thing_Id, f_Thing_Kind, f_Thing_Colour, f_Thing_Size, f_Thing_Worth⟩, f_Place, f_At, f_Finder⟩ ⟨d_Colours, d_Size, d_Places, d_Hours⟩ id, (fun (f : TFind) (d : TDoubt) (id : Int) => [((0, 1), .arr false 1 (dI 0) (ML dI (rmR f d id).Colours)), ((1, 1), .arr false 1 (dI 0) (ML dI (rmR f d id).Places))]) ⟨⟨f_Thing_Id, f_Thing_Kind, f_Thing_Colour, f_Thing_Size, f_Thing_Worth⟩, f_Place, f_At, f_Finder⟩ ⟨d_Colours, d_Size, d_Places, d_Hours⟩ id) :=
  mkCon_fn (fun x y h _ => c9_inj x y h) ((⟨⟨f_Thing_Id, f_Thing_Kind, f_Thing_Colour, f_Thing_Size, f_Thing_Worth⟩, f_Place, f_At, f_Finder⟩, ⟨d_Colours, d_Size, d_Places, d_Hours⟩, id) : TFind × TDoubt × Int) (by simp [nz, nz1, ML_nil, encLI, encTDoubt, encTFind, encTThing]) rfl
theorem c9_pc (f : TFind) (d : TDoubt) (id : Int) (hpre : smJ d) : PCo Try.prog 9 [encTFind f, encTDoubt d, dI id] (Tab.of []) (.tup [.agg [dI (rmR f d id).Id, dI (rmR f d id).Kind, .own (0, 1) 1 0 (rmR f d id).Colours.length, dI (rmR f d id).SizeLow, dI (rmR f d id).SizeHigh, .own (1, 1) 1 0 (rmR f d id).Places.length, dI (rmR f d id).Span.From, dI (rmR f d id).Span.Until], dB (rmOk f d id)]) (Tab.of [((0, 1), .arr false 1 (dI 0) (ML dI (rmR f d id).Colours)), ((1, 1), .arr false 1 (dI 0) (ML dI (rmR f d id).Places))]) := by
  have hpre' := hpre
  obtain ⟨p1, p2⟩ := hpre
  have q1 := mOnce_le d.Colours [f.Thing.Colour]
  have q2 := mOnce_le d.Places [f.Place]
  have m1 : max 1 (f.Thing.Size - d.Size) = max (f.Thing.Size - d.Size) 1 := Int.max_comm _ _
  have m2 : min 50 (f.Thing.Size + d.Size) = min (f.Thing.Size + d.Size) 50 := Int.min_comm _ _
  have m3 : max 0 (f.At - d.Hours) = max (f.At - d.Hours) 0 := Int.max_comm _ _
  simp only [List.length_cons, List.length_nil] at q1 q2
  have hr : rmD f d id = ⟨id, f.Thing.Kind, mOnce d.Colours [f.Thing.Colour], max (f.Thing.Size - d.Size) 1, min (f.Thing.Size + d.Size) 50, mOnce d.Places [f.Place], ⟨max (f.At - d.Hours) 0, f.At⟩⟩ := rfl
  cases hc : rmOk f d id with
  | true =>
    have hd : rmR f d id = rmD f d id := by rw [rmR, if_pos hc]
    rw [hd, hr]
    simp only [rmOk, Bool.and_eq_true] at hc
    obtain ⟨⟨hA, hB⟩, hJ⟩ := hc
    rw [hr] at hJ
    have k1 := find_bd hA
    have k2 := doubt_bd hB
    have e1 := put_once (n := f.Thing.Colour) (doubt_asc hB).1
    have e2 := put_once (n := f.Place) (doubt_asc hB).2
    refine pco_of_run [1003] (tin := []) (E := ⟨[c28, c29, c32f, c31, c36, c33, c37, c34, c35, c30, c38], [], []⟩) (m := false) (base := 1000000) (Env.ok_cons c28_ok (Env.ok_cons c29_ok (Env.ok_cons c32f_ok (Env.ok_cons c31_ok (Env.ok_cons c36_ok (Env.ok_cons c33_ok (Env.ok_cons c37_ok (Env.ok_cons c34_ok (Env.ok_cons c35_ok (Env.ok_cons c30_ok (Env.ok_cons c38_ok Env.ok_nil))))))))))) G_ok mix 300 6 Try.func9 (by kernel_rfl) rfl (by kernel_rfl) (by kernel_rfl) rfl ?_
    simp (config := {maxSteps := 3000000}) [Try.f9, hA, hB, hJ, m1, m2, m3, e1, e2]
    first | done | omega | trace_state
  | false =>
    have hd : rmR f d id = ⟨0, 0, [], 0, 0, [], ⟨0, 0⟩⟩ := by rw [rmR, if_neg (by simp [hc])]
    rw [hd]
    refine pc_nils (.lit (.lit (.sl (s := 0) (z := .any) (.lit (.lit (.sl (s := 0) (z := .any) (.lit (.lit .nil)))))))) ?_
    refine pco_of_run [1003] (tin := []) (E := ⟨[c28, c29, c32f, c31, c36, c33, c37, c34, c35, c30, c38], [], []⟩) (m := false) (base := 1000000) (Env.ok_cons c28_ok (Env.ok_cons c29_ok (Env.ok_cons c32f_ok (Env.ok_cons c31_ok (Env.ok_cons c36_ok (Env.ok_cons c33_ok (Env.ok_cons c37_ok (Env.ok_cons c34_ok (Env.ok_cons c35_ok (Env.ok_cons c30_ok (Env.ok_cons c38_ok Env.ok_nil))))))))))) G_ok mix 300 6 Try.func9 (by kernel_rfl) rfl (by kernel_rfl) (by kernel_rfl) rfl ?_
    cases hA : mIsFind f with
    | false => simp [Try.f9, hA]; first | done | omega | trace_state
    | true =>
      cases hB : mIsDoubt d with
      | false => simp [Try.f9, hA, hB]; first | done | omega | trace_state
      | true =>
        have hJ : mIsReport (rmD f d id) = false := by simpa [rmOk, hA, hB] using hc
        rw [hr] at hJ
        have k1 := find_bd hA
        have k2 := doubt_bd hB
        have e1 := put_once (n := f.Thing.Colour) (doubt_asc hB).1
        have e2 := put_once (n := f.Place) (doubt_asc hB).2
        simp (config := {maxSteps := 3000000}) [Try.f9, hA, hB, hJ, m1, m2, m3, e1, e2]
        first | done | omega | trace_state
theorem c9_ok : c9.ok Try.prog := mkCon_ok fun ⟨f, d, id⟩ hpre => c9_pc f d id hpre
/-- loop.example/g03007/spec.Remember -/
noncomputable def c6 : Con := mkCon 6 false (α := TFind × TDoubt × Int) (fun x => (fun (f : TFind) (d : TDoubt) (id : Int) => [encTFind f, encTDoubt d, dI id]) x.1 x.2.1 x.2.2) (fun _ => []) (fun x => (fun (f : TFind) (d : TDoubt) (id : Int) => smJ d) x.1 x.2.1 x.2.2) (fun x => (fun (f : TFind) (d : TDoubt) (id : Int) => (.tup [.agg [dI (rmR f d id).Id, dI (rmR f d id).Kind, .own (0, 1) 1 0 (rmR f d id).Colours.length, dI (rmR f d id).SizeLow, dI (rmR f d id).SizeHigh, .own (1, 1) 1 0 (rmR f d id).Places.length, dI (rmR f d id).Span.From, dI (rmR f d id).Span.Until], dB (rmOk f d id)] : D)) x.1 x.2.1 x.2.2) (fun x => (fun (f : TFind) (d : TDoubt) (id : Int) => [((0, 1), .arr false 1 (dI 0) (ML dI (rmR f d id).Colours)), ((1, 1), .arr false 1 (dI 0) (ML dI (rmR f d id).Places))]) x.1 x.2.1 x.2.2)
@[simp] theorem c6_f : c6.f = 6 := rfl
@[simp] theorem c6_own : c6.own = false := rfl
theorem c6_inj : ∀ u_ v_ : TFind × TDoubt × Int, ((fun x => (fun (f : TFind) (d : TDoubt) (id : Int) => [encTFind f, encTDoubt d, dI id]) x.1 x.2.1 x.2.2) u_).map nz = ((fun x => (fun (f : TFind) (d : TDoubt) (id : Int) => [encTFind f, encTDoubt d, dI id]) x.1 x.2.1 x.2.2) v_).map nz → u_ = v_ := by
  intro u_ v_ h
  obtain ⟨⟨⟨f_Thing_Id, f_Thing_Kind, f_Thing_Colour, f_Thing_Size, f_Thing_Worth⟩, f_Place, f_At, f_Finder⟩, ⟨d_Colours, d_Size, d_Places, d_Hours⟩, id⟩ := u_
  obtain ⟨⟨⟨f_Thing_Id', f_Thing_Kind', f_Thing_Colour', f_Thing_Size', f_Thing_Worth'⟩, f_Place', f_At', f_Finder'⟩, ⟨d_Colours', d_Size', d_Places', d_Hours'⟩, id'⟩ := v_
  simp [nz_lit, nz1_lit, nz_agg, nz_sl, nz1_sl, encLI, encTDoubt, encTFind, encTThing] at h
  first | (simp [h]; done) | (obtain ⟨⟩ := h; simp_all; done) | simp_all
@[simp] theorem c6_fn (f_Thing_Id : Int) (f_Thing_Kind : Int) (f_Thing_Colour : Int) (f_Thing_Size : Int) (f_Thing_Worth : Int) (f_Place : Int) (f_At : Int) (f_Finder : Int) (d_Colours : List Int) (d_Size : Int) (d_Places : List Int) (d_Hours : Int) (id : Int) : c6.fn [.agg [.lit (.int .i64 f_Thing_Id), .lit (.int .i64 f_Thing_Kind), .lit (.int .i64 f_Thing_Colour), .lit (.int .i64 f_Thing_Size), .lit (.int .i64 f_Thing_Worth), .lit (.int .i64 f_Place), .lit (.int .i64 f_At), .lit (.int .i64 f_Finder)], .agg [.sl false 1 (.lit (.int .i64 0)) (ML dI d_Colours), .lit (.int .i64 d_Size), .sl false 1 (.lit (.int .i64 0)) (ML dI d_Places), .lit (.int .i64 d_Hours)], .lit (.int .i64 id)] [] = some ((fun (f : TFind) (d : TDoubt) (id : Int) => smJ d) ⟨⟨f_Thing_Id, f_Thing_Kind, f_Thing_Colour, f_Thing_Size, f_Thing_Worth⟩, f_Place, f_At, f_Finder⟩ ⟨d_Colours, d_Size, d_Places, d_Hours⟩ id, (fun (f : TFind) (d : TDoubt) (id : Int) => (.tup [.agg [dI (rmR f d id).Id, dI (rmR f d id).Kind, .own (0, 1) 1 0 (rmR f d id).Colours.length, dI (rmR f d id).SizeLow, dI (rmR f d id).SizeHigh, .own (1, 1) 1 0 (rmR f d id).Places.length, dI (rmR f d id).Span.From, dI (rmR f d id).Span.Until], dB (rmOk f d id)] : D)) ⟨⟨f_Thing_Id, f_Thing_Kind, f_Thing_Colour, f_Thing_Size, f_Thing_Worth⟩, f_Place, f_At, f_Finder⟩ ⟨d_Colours, d_Size, d_Places, d_Hours⟩ id, (fun (f : TFind) (d : TDoubt) (id : Int) => [((0, 1), .arr false 1 (dI 0) (ML dI (rmR f d id).Colours)), ((1, 1), .arr false 1 (dI 0) (ML dI (rmR f d id).Places))]) ⟨⟨f_Thing_Id, f_Thing_Kind, f_Thing_Colour, f_Thing_Size, f_Thing_Worth⟩, f_Place, f_At, f_Finder⟩ ⟨d_Colours, d_Size, d_Places, d_Hours⟩ id) :=
  mkCon_fn (fun x y h _ => c6_inj x y h) ((⟨⟨f_Thing_Id, f_Thing_Kind, f_Thing_Colour, f_Thing_Size, f_Thing_Worth⟩, f_Place, f_At, f_Finder⟩, ⟨d_Colours, d_Size, d_Places, d_Hours⟩, id) : TFind × TDoubt × Int) (by simp [nz, nz1, ML_nil, encLI, encTDoubt, encTFind, encTThing]) rfl
theorem c6_pc (f : TFind) (d : TDoubt) (id : Int) (hpre : smJ d) : PCo Try.prog 6 [encTFind f, encTDoubt d, dI id] (Tab.of []) (.tup [.agg [dI (rmR f d id).Id, dI (rmR f d id).Kind, .own (0, 1) 1 0 (rmR f d id).Colours.length, dI (rmR f d id).SizeLow, dI (rmR f d id).SizeHigh, .own (1, 1) 1 0 (rmR f d id).Places.length, dI (rmR f d id).Span.From, dI (rmR f d id).Span.Until], dB (rmOk f d id)]) (Tab.of [((0, 1), .arr false 1 (dI 0) (ML dI (rmR f d id).Colours)), ((1, 1), .arr false 1 (dI 0) (ML dI (rmR f d id).Places))]) := by
  have hpre' := hpre
  obtain ⟨p1, p2⟩ := hpre
  have q1 := mOnce_le d.Colours [f.Thing.Colour]
  have q2 := mOnce_le d.Places [f.Place]
  have m1 : max 1 (f.Thing.Size - d.Size) = max (f.Thing.Size - d.Size) 1 := Int.max_comm _ _
  have m2 : min 50 (f.Thing.Size + d.Size) = min (f.Thing.Size + d.Size) 50 := Int.min_comm _ _
  have m3 : max 0 (f.At - d.Hours) = max (f.At - d.Hours) 0 := Int.max_comm _ _
  simp only [List.length_cons, List.length_nil] at q1 q2
  have hr : rmD f d id = ⟨id, f.Thing.Kind, mOnce d.Colours [f.Thing.Colour], max (f.Thing.Size - d.Size) 1, min (f.Thing.Size + d.Size) 50, mOnce d.Places [f.Place], ⟨max (f.At - d.Hours) 0, f.At⟩⟩ := rfl
  cases hc : rmOk f d id with
  | true =>
    have hd : rmR f d id = rmD f d id := by rw [rmR, if_pos hc]
    rw [hd, hr]
    simp only [rmOk, Bool.and_eq_true] at hc
    obtain ⟨⟨hA, hB⟩, hJ⟩ := hc
    rw [hr] at hJ
    have k1 := find_bd hA
    have k2 := doubt_bd hB
    have e1 := put_once (n := f.Thing.Colour) (doubt_asc hB).1
    have e2 := put_once (n := f.Place) (doubt_asc hB).2
    refine pco_of_run [1003] (tin := []) (E := ⟨[c20, c21, c22, c23, c24, c25], [], []⟩) (m := false) (base := 1000000) (Env.ok_cons c20_ok (Env.ok_cons c21_ok (Env.ok_cons c22_ok (Env.ok_cons c23_ok (Env.ok_cons c24_ok (Env.ok_cons c25_ok Env.ok_nil)))))) G_ok mix 300 6 Try.func6 (by kernel_rfl) rfl (by kernel_rfl) (by kernel_rfl) rfl ?_
    simp (config := {maxSteps := 3000000}) [Try.f6, hA, hB, hJ, m1, m2, m3, e1, e2]
    first | done | omega | trace_state
  | false =>
    have hd : rmR f d id = ⟨0, 0, [], 0, 0, [], ⟨0, 0⟩⟩ := by rw [rmR, if_neg (by simp [hc])]
    rw [hd]
    refine pc_nils (.lit (.lit (.sl (s := 0) (z := .any) (.lit (.lit (.sl (s := 0) (z := .any) (.lit (.lit .nil)))))))) ?_
    refine pco_of_run [1003] (tin := []) (E := ⟨[c20, c21, c22, c23, c24, c25], [], []⟩) (m := false) (base := 1000000) (Env.ok_cons c20_ok (Env.ok_cons c21_ok (Env.ok_cons c22_ok (Env.ok_cons c23_ok (Env.ok_cons c24_ok (Env.ok_cons c25_ok Env.ok_nil)))))) G_ok mix 300 6 Try.func6 (by kernel_rfl) rfl (by kernel_rfl) (by kernel_rfl) rfl ?_
    cases hA : mIsFind f with
    | false => simp [Try.f6, hA]; first | done | omega | trace_state
    | true =>
      cases hB : mIsDoubt d with
      | false => simp [Try.f6, hA, hB]; first | done | omega | trace_state
      | true =>
        have hJ : mIsReport (rmD f d id) = false := by simpa [rmOk, hA, hB] using hc
        rw [hr] at hJ
        have k1 := find_bd hA
        have k2 := doubt_bd hB
        have e1 := put_once (n := f.Thing.Colour) (doubt_asc hB).1
        have e2 := put_once (n := f.Place) (doubt_asc hB).2
        simp (config := {maxSteps := 3000000}) [Try.f6, hA, hB, hJ, m1, m2, m3, e1, e2]
        first | done | omega | trace_state
theorem c6_ok : c6.ok Try.prog := mkCon_ok fun ⟨f, d, id⟩ hpre => c6_pc f d id hpre

end Go.Proofs.Ytallgbanohpbbaa
