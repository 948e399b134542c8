/- Contracts of the functions that the laws run. -/
import Derived.Test.Ytpnfkjbnhholfaach06h
import Derived.Test.YtpnfkjbnhholfaaEngB
namespace Go.Proofs.Ytpnfkjbnhholfaa
open Go Go.Eng
set_option linter.unusedSimpArgs false
set_option linter.unusedVariables false
set_option maxRecDepth 10000
set_option maxHeartbeats 1000000
/-- slices.Clone[[]loop.example/g03007/impl.Fin -/
noncomputable def c73 : Con := mkCon 73 false (α := (List TFind)) (fun x => (fun (l : List TFind) => [encLTFind l]) x) (fun _ => []) (fun x => (fun (l : List TFind) => l.length ≤ 1073741824) x) (fun x => (fun (l : List TFind) => (.own (0, 1) 8 0 l.length : D)) x) (fun x => (fun (l : List TFind) => [((0, 1), .arr false 8 yTFind (ML encTFind l))]) x)
@[simp] theorem c73_f : c73.f = 73 := rfl
@[simp] theorem c73_own : c73.own = false := rfl
theorem c73_inj : ∀ u_ v_ : (List TFind), ((fun x => (fun (l : List TFind) => [encLTFind l]) x) u_).map nz = ((fun x => (fun (l : List TFind) => [encLTFind l]) x) v_).map nz → u_ = v_ := by
  intro u_ v_ h
  obtain l := u_
  obtain l' := v_
  simp [nz_lit, nz1_lit, nz_agg, nz_sl, nz1_sl, encLTFind] at h
  first | (simp [h]; done) | (obtain ⟨⟩ := h; simp_all; done) | simp_all
@[simp] theorem c73_fn (l : List TFind) : c73.fn [.sl false 8 yTFind (ML encTFind l)] [] = some ((fun (l : List TFind) => l.length ≤ 1073741824) l, (fun (l : List TFind) => (.own (0, 1) 8 0 l.length : D)) l, (fun (l : List TFind) => [((0, 1), .arr false 8 yTFind (ML encTFind l))]) l) :=
  mkCon_fn (fun x y h _ => c73_inj x y h) (l : (List TFind)) (by simp [nz, nz1, ML_nil, encLTFind]) rfl
@[simp] theorem c73_fn1 (s_l : Nat) (z_l : D) : c73.fn [.sl false s_l z_l []] [] = some ((fun (l : List TFind) => l.length ≤ 1073741824) [], (fun (l : List TFind) => (.own (0, 1) 8 0 l.length : D)) [], (fun (l : List TFind) => [((0, 1), .arr false 8 yTFind (ML encTFind l))]) []) :=
  mkCon_fn (fun x y h _ => c73_inj x y h) ([] : (List TFind)) (by simp [nz, nz1, ML_nil, encLTFind]) rfl
theorem c73_pc (l : List TFind) (hpre : l.length ≤ 1073741824) : PCo Try.prog 73 [encLTFind l] (Tab.of []) (.own (0, 1) 8 0 l.length) (Tab.of [((0, 1), .arr false 8 yTFind (ML encTFind l))]) := by
  by_cases hl : l = []
  · subst hl
    show PCo Try.prog 73 [.sl false 8 yTFind []] Tab.nil (.own (0, 1) 8 0 0) (Tab.of [((0, 1), .arr false 8 yTFind [])])
    refine pco_slice fun a cap => ?_
    cases a with
    | none =>
      refine pc_ghost (s' := 0) (z' := .any) ?_
      refine pco_of_run [] (tin := []) (E := ⟨[], [], []⟩) (m := false) (base := 0) Env.ok_nil G_ok mix 300 6 Try.func73 (by kernel_rfl) rfl (by kernel_rfl) (by kernel_rfl) rfl ?_
      simp [Try.f73]
    | some q =>
      refine pco_of_run [] (tin := []) (E := ⟨[], [], []⟩) (m := false) (base := 0) Env.ok_nil G_ok mix 300 6 Try.func73 (by kernel_rfl) rfl (by kernel_rfl) (by kernel_rfl) rfl ?_
      simp [Try.f73]
  · refine pco_of_run [] (E := ⟨[], [], []⟩) (m := false) (base := 0) Env.ok_nil G_ok mix 300 6 Try.func73 (by kernel_rfl) rfl (by kernel_rfl) (by kernel_rfl) rfl ?_
    simp [Try.f73, -nilS, nilS_ML hl]
    omega
theorem c73_ok : c73.ok Try.prog := mkCon_ok fun l hpre => c73_pc l hpre
/-- (loop.example/g03007/impl.sortedList[loop.example/g03007/impl.Find]).put -/
noncomputable def c75 : Con := mkCon 75 false (α := (List TFind) × TFind) (fun x => (fun (l : List TFind) (x : TFind) => ([.agg [.sl false 8 yTFind (ML encTFind l), .fn (.func 144) [] []], encTFind x] : List D)) x.1 x.2) (fun x => (fun (l : List TFind) (x : TFind) => ([] : List (Nm × OO))) x.1 x.2) (fun x => (fun (l : List TFind) (x : TFind) => l.length ≤ 1073741823) x.1 x.2) (fun x => (fun (l : List TFind) (x : TFind) => (.own (0, 1) 8 0 (putBy nFind x l).length : D)) x.1 x.2) (fun x => (fun (l : List TFind) (x : TFind) => ([((0, 1), .arr false 8 yTFind (ML encTFind (putBy nFind x l)))] : List (Nm × OO))) x.1 x.2)
@[simp] theorem c75_f : c75.f = 75 := rfl
@[simp] theorem c75_own : c75.own = false := rfl
theorem c75_inj : ∀ u_ v_ : (List TFind) × TFind, ((fun x => (fun (l : List TFind) (x : TFind) => ([.agg [.sl false 8 yTFind (ML encTFind l), .fn (.func 144) [] []], encTFind x] : List D)) x.1 x.2) u_).map nz = ((fun x => (fun (l : List TFind) (x : TFind) => ([.agg [.sl false 8 yTFind (ML encTFind l), .fn (.func 144) [] []], encTFind x] : List D)) x.1 x.2) v_).map nz → (fun x => (fun (l : List TFind) (x : TFind) => ([] : List (Nm × OO))) x.1 x.2) u_ = (fun x => (fun (l : List TFind) (x : TFind) => ([] : List (Nm × OO))) x.1 x.2) v_ → u_ = v_ := by
  intro u_ v_ h h2_
  obtain ⟨l, ⟨⟨x_Thing_Id, x_Thing_Kind, x_Thing_Colour, x_Thing_Size, x_Thing_Worth⟩, x_Place, x_At, x_Finder⟩⟩ := u_
  obtain ⟨l', ⟨⟨x_Thing_Id', x_Thing_Kind', x_Thing_Colour', x_Thing_Size', x_Thing_Worth'⟩, x_Place', x_At', x_Finder'⟩⟩ := v_
  simp [nz_lit, nz1_lit, nz_agg, nz_sl, nz1_sl, nz_sx, nz_el, nz1_el, nz_own, nz1_own, nz_ptr, nz_fn, nz_iface] at h h2_
  first | (simp [h, h2_]; done) | (obtain ⟨h3_, h4_⟩ := List.append_inj h2_ h.1; simp_all; done) | simp_all | grind
@[simp] theorem c75_fn (l : List TFind) (x_Thing_Id : Int) (x_Thing_Kind : Int) (x_Thing_Colour : Int) (x_Thing_Size : Int) (x_Thing_Worth : Int) (x_Place : Int) (x_At : Int) (x_Finder : Int) : c75.fn ([.agg [.sl false 8 yTFind (ML encTFind l), .fn (.func 144) [] []], .agg [.lit (.int .i64 x_Thing_Id), .lit (.int .i64 x_Thing_Kind), .lit (.int .i64 x_Thing_Colour), .lit (.int .i64 x_Thing_Size), .lit (.int .i64 x_Thing_Worth), .lit (.int .i64 x_Place), .lit (.int .i64 x_At), .lit (.int .i64 x_Finder)]]) ([]) = some (l.length ≤ 1073741823, .own (0, 1) 8 0 (putBy nFind (⟨⟨x_Thing_Id, x_Thing_Kind, x_Thing_Colour, x_Thing_Size, x_Thing_Worth⟩, x_Place, x_At, x_Finder⟩ : TFind) l).length, [((0, 1), .arr false 8 yTFind (ML encTFind (putBy nFind (⟨⟨x_Thing_Id, x_Thing_Kind, x_Thing_Colour, x_Thing_Size, x_Thing_Worth⟩, x_Place, x_At, x_Finder⟩ : TFind) l)))]) :=
  mkCon_fn c75_inj ((l, ⟨⟨x_Thing_Id, x_Thing_Kind, x_Thing_Colour, x_Thing_Size, x_Thing_Worth⟩, x_Place, x_At, x_Finder⟩) : (List TFind) × TFind) rfl rfl
theorem c75_pc (l : List TFind) (x : TFind) (hpre : l.length ≤ 1073741823) : PCo Try.prog 75 ([.agg [.sl false 8 yTFind (ML encTFind l), .fn (.func 144) [] []], encTFind x]) (Tab.of ([])) (.own (0, 1) 8 0 (putBy nFind x l).length) (Tab.of ([((0, 1), .arr false 8 yTFind (ML encTFind (putBy nFind x l)))])) := by
  refine pco_of_run [6, 1008] (E := ⟨[c145, c146, c144], [], []⟩) (m := false) (base := 0) (Env.ok_cons c145_ok (Env.ok_cons c146_ok (Env.ok_cons c144_ok Env.ok_nil))) G_ok mix 300 6 Try.func75 (by kernel_rfl) rfl (by kernel_rfl) (by kernel_rfl) rfl ?_
  have hb := indexBy_bd (want := geN nFind (nFind x)) l 0
  have hl : ¬ (l.length : Int) < 0 := by omega
  simp only [nFind] at hb
  by_cases hneg : indexBy (geN nFind (nFind x)) 0 l < 0
  · have e1 : putAt nFind (nFind x) l = l.length := by unfold putAt; exact if_pos hneg
    have e2 : putRest nFind (nFind x) l = l.length := by unfold putRest; rw [e1]; simp
    have e3 : putBy nFind x l = l ++ [x] := by simp only [putBy]; rw [e1, e2]; simp
    rw [e3]
    simp only [nFind] at hneg
    simp [Try.f75, hneg, ↓ML_getD_TFind]
    omega
  · obtain ⟨k, hk, hkl⟩ : ∃ k : Nat, indexBy (geN nFind (nFind x)) 0 l = k ∧ k < l.length := ⟨(indexBy (geN nFind (nFind x)) 0 l).toNat, by simp only [nFind] at *; omega, by simp only [nFind] at *; omega⟩
    have e1 : putAt nFind (nFind x) l = k := by unfold putAt; rw [hk]; simp; intro h; omega
    by_cases hq : nFind (l[k]?.getD default) = nFind x
    · have e2 : putRest nFind (nFind x) l = k + 1 := by unfold putRest; rw [e1]; exact if_pos ⟨hkl, hq⟩
      have e3 : putBy nFind x l = l.take k ++ x :: l.drop (k + 1) := by simp only [putBy]; rw [e1, e2]
      rw [e3]
      simp only [nFind] at hk hq
      simp [Try.f75, hk, hq, ↓ML_getD_TFind]
      omega
    · have e2 : putRest nFind (nFind x) l = k := by unfold putRest; rw [e1]; exact if_neg fun h => hq h.2
      have e3 : putBy nFind x l = l.take k ++ x :: l.drop k := by simp only [putBy]; rw [e1, e2]
      rw [e3]
      simp only [nFind] at hk hq
      simp [Try.f75, hk, hq, ↓ML_getD_TFind]
      omega
theorem c75_ok : c75.ok Try.prog := mkCon_ok fun ⟨l, x⟩ hpre => c75_pc l x hpre
def insF (l : List TFind) (x : TFind) : List TFind := l.take (putAt nFind x.Thing.Id l) ++ x :: l.drop (putAt nFind x.Thing.Id l)
def mPutFind (l : List TFind) (x : TFind) : List TFind := if mAreFinds (insF l x) then insF l x else l
theorem mPutFind_yes {l : List TFind} {x : TFind} (h : mAreFinds (insF l x) = true) : mPutFind l x = insF l x := by simp [mPutFind, h]
theorem mPutFind_no {l : List TFind} {x : TFind} (h : mAreFinds (insF l x) = false) : mPutFind l x = l := by simp [mPutFind, h]
theorem insF_len (l : List TFind) (x : TFind) : (insF l x).length = l.length + 1 := by
  have := putAt_le nFind x.Thing.Id l
  simp [insF]; omega
theorem mPutFind_len (l : List TFind) (x : TFind) : (mPutFind l x).length ≤ l.length + 1 := by
  simp only [mPutFind]; split
  · rw [insF_len]; omega
  · omega
theorem asc_low {ok : TFind → Bool} {num : TFind → Int} : ∀ {b : List TFind} {q : Int}, ascBy ok num (some q) b = true → ∀ y ∈ b, q < num y
  | [], _, _, _, hy => by simp at hy
  | x :: b, q, h, y, hy => by
    simp only [ascBy, Bool.and_eq_true, decide_eq_true_eq] at h
    rcases List.mem_cons.1 hy with rfl | hy
    · exact h.1.2
    · exact Int.lt_trans h.1.2 (asc_low h.2 y hy)
theorem asc_mid {ok : TFind → Bool} {num : TFind → Int} {x : TFind} {b : List TFind} : ∀ {a : List TFind} {o : Option Int}, ascBy ok num o (a ++ x :: b) = true → (∀ y ∈ a, num y < num x) ∧ ∀ y ∈ b, num x < num y
  | [], o, h => by
    simp only [List.nil_append, ascBy, Bool.and_eq_true] at h
    exact ⟨by simp, asc_low h.2⟩
  | z :: a, o, h => by
    simp only [List.cons_append, ascBy, Bool.and_eq_true] at h
    have h2 := asc_mid h.2
    refine ⟨fun y hy => ?_, h2.2⟩
    rcases List.mem_cons.1 hy with rfl | hy
    · exact asc_low h.2 x (by simp)
    · exact h2.1 y hy
theorem index_has {n : Int} : ∀ (l : List TFind) (i : Int), 0 ≤ i → (0 ≤ indexBy (wantN nFind n) i l ↔ ∃ y ∈ l, y.Thing.Id = n)
  | [], i, _ => by simp [indexBy]
  | x :: r, i, hi => by
    simp only [indexBy]
    by_cases h : x.Thing.Id = n
    · rw [if_pos (by simp [wantN, h])]
      exact ⟨fun _ => ⟨x, by simp, h⟩, fun _ => hi⟩
    · rw [if_neg (by simp [wantN, h]), index_has r (i + 1) (by omega)]
      constructor
      · rintro ⟨y, hy, e⟩; exact ⟨y, by simp [hy], e⟩
      · rintro ⟨y, hy, e⟩
        rcases List.mem_cons.1 hy with rfl | hy
        · exact absurd e h
        · exact ⟨y, hy, e⟩
theorem insF_dup {l : List TFind} {x : TFind} (h : 0 ≤ mFindThing l x.Thing.Id) : mAreFinds (insF l x) = false := by
  rw [mFindThing, index_has l 0 (by omega)] at h
  obtain ⟨y, hy, e⟩ := h
  cases ha : mAreFinds (insF l x) with
  | false => rfl
  | true =>
    simp only [mAreFinds, insF, Bool.and_eq_true] at ha
    have hm := asc_mid ha.2
    rw [← List.take_append_drop (putAt nFind x.Thing.Id l) l, List.mem_append] at hy
    simp only [nFind] at hm
    rcases hy with hy | hy
    · have := hm.1 y hy; omega
    · have := hm.2 y hy; omega
theorem putBy_ins {l : List TFind} {x : TFind} (h : mFindThing l x.Thing.Id < 0) : putBy nFind x l = insF l x := by
  have h2 : ¬ ∃ y ∈ l, y.Thing.Id = x.Thing.Id := by
    rw [← index_has l 0 (by omega)]
    simp only [mFindThing] at h; omega
  have h3 : putRest nFind x.Thing.Id l = putAt nFind x.Thing.Id l := by
    simp only [putRest]
    rw [if_neg]
    rintro ⟨h4, h5⟩
    exact h2 ⟨_, getD_mem (d := default) h4, h5⟩
  simp only [putBy, insF, nFind]
  rw [h3]
/-- loop.example/g03007/impl.PutFind -/
noncomputable def c11 : Con := mkCon 11 false (α := (List TFind) × TFind) (fun x => (fun (l : List TFind) (x : TFind) => [encLTFind l, encTFind x]) x.1 x.2) (fun _ => []) (fun x => (fun (l : List TFind) (x : TFind) => l.length ≤ 1073741823) x.1 x.2) (fun x => (fun (l : List TFind) (x : TFind) => (.tup [.own (0, 1) 8 0 (mPutFind l x).length, dB (mAreFinds (insF l x))] : D)) x.1 x.2) (fun x => (fun (l : List TFind) (x : TFind) => [((0, 1), .arr false 8 yTFind (ML encTFind (mPutFind l x)))]) x.1 x.2)
@[simp] theorem c11_f : c11.f = 11 := rfl
@[simp] theorem c11_own : c11.own = false := rfl
theorem c11_inj : ∀ u_ v_ : (List TFind) × TFind, ((fun x => (fun (l : List TFind) (x : TFind) => [encLTFind l, encTFind x]) x.1 x.2) u_).map nz = ((fun x => (fun (l : List TFind) (x : TFind) => [encLTFind l, encTFind x]) x.1 x.2) v_).map nz → u_ = v_ := by
  intro u_ v_ h
  obtain ⟨l, ⟨⟨x_Thing_Id, x_Thing_Kind, x_Thing_Colour, x_Thing_Size, x_Thing_Worth⟩, x_Place, x_At, x_Finder⟩⟩ := u_
  obtain ⟨l', ⟨⟨x_Thing_Id', x_Thing_Kind', x_Thing_Colour', x_Thing_Size', x_Thing_Worth'⟩, x_Place', x_At', x_Finder'⟩⟩ := v_
  simp [nz_lit, nz1_lit, nz_agg, nz_sl, nz1_sl, encLTFind, encTFind, encTThing] at h
  first | (simp [h]; done) | (obtain ⟨⟩ := h; simp_all; done) | simp_all
@[simp] theorem c11_fn (l : List TFind) (x_Thing_Id : Int) (x_Thing_Kind : Int) (x_Thing_Colour : Int) (x_Thing_Size : Int) (x_Thing_Worth : Int) (x_Place : Int) (x_At : Int) (x_Finder : Int) : c11.fn [.sl false 8 yTFind (ML encTFind l), .agg [.lit (.int .i64 x_Thing_Id), .lit (.int .i64 x_Thing_Kind), .lit (.int .i64 x_Thing_Colour), .lit (.int .i64 x_Thing_Size), .lit (.int .i64 x_Thing_Worth), .lit (.int .i64 x_Place), .lit (.int .i64 x_At), .lit (.int .i64 x_Finder)]] [] = some ((fun (l : List TFind) (x : TFind) => l.length ≤ 1073741823) l ⟨⟨x_Thing_Id, x_Thing_Kind, x_Thing_Colour, x_Thing_Size, x_Thing_Worth⟩, x_Place, x_At, x_Finder⟩, (fun (l : List TFind) (x : TFind) => (.tup [.own (0, 1) 8 0 (mPutFind l x).length, dB (mAreFinds (insF l x))] : D)) l ⟨⟨x_Thing_Id, x_Thing_Kind, x_Thing_Colour, x_Thing_Size, x_Thing_Worth⟩, x_Place, x_At, x_Finder⟩, (fun (l : List TFind) (x : TFind) => [((0, 1), .arr false 8 yTFind (ML encTFind (mPutFind l x)))]) l ⟨⟨x_Thing_Id, x_Thing_Kind, x_Thing_Colour, x_Thing_Size, x_Thing_Worth⟩, x_Place, x_At, x_Finder⟩) :=
  mkCon_fn (fun x y h _ => c11_inj x y h) ((l, ⟨⟨x_Thing_Id, x_Thing_Kind, x_Thing_Colour, x_Thing_Size, x_Thing_Worth⟩, x_Place, x_At, x_Finder⟩) : (List TFind) × TFind) (by simp [nz, nz1, ML_nil, encLTFind, encTFind, encTThing]) rfl
@[simp] theorem c11_fn1 (s_l : Nat) (z_l : D) (x_Thing_Id : Int) (x_Thing_Kind : Int) (x_Thing_Colour : Int) (x_Thing_Size : Int) (x_Thing_Worth : Int) (x_Place : Int) (x_At : Int) (x_Finder : Int) : c11.fn [.sl false s_l z_l [], .agg [.lit (.int .i64 x_Thing_Id), .lit (.int .i64 x_Thing_Kind), .lit (.int .i64 x_Thing_Colour), .lit (.int .i64 x_Thing_Size), .lit (.int .i64 x_Thing_Worth), .lit (.int .i64 x_Place), .lit (.int .i64 x_At), .lit (.int .i64 x_Finder)]] [] = some ((fun (l : List TFind) (x : TFind) => l.length ≤ 1073741823) [] ⟨⟨x_Thing_Id, x_Thing_Kind, x_Thing_Colour, x_Thing_Size, x_Thing_Worth⟩, x_Place, x_At, x_Finder⟩, (fun (l : List TFind) (x : TFind) => (.tup [.own (0, 1) 8 0 (mPutFind l x).length, dB (mAreFinds (insF l x))] : D)) [] ⟨⟨x_Thing_Id, x_Thing_Kind, x_Thing_Colour, x_Thing_Size, x_Thing_Worth⟩, x_Place, x_At, x_Finder⟩, (fun (l : List TFind) (x : TFind) => [((0, 1), .arr false 8 yTFind (ML encTFind (mPutFind l x)))]) [] ⟨⟨x_Thing_Id, x_Thing_Kind, x_Thing_Colour, x_Thing_Size, x_Thing_Worth⟩, x_Place, x_At, x_Finder⟩) :=
  mkCon_fn (fun x y h _ => c11_inj x y h) (([], ⟨⟨x_Thing_Id, x_Thing_Kind, x_Thing_Colour, x_Thing_Size, x_Thing_Worth⟩, x_Place, x_At, x_Finder⟩) : (List TFind) × TFind) (by simp [nz, nz1, ML_nil, encLTFind, encTFind, encTThing]) rfl
theorem c11_pc (l : List TFind) (x : TFind) (hpre : l.length ≤ 1073741823) : PCo Try.prog 11 [encLTFind l, encTFind x] (Tab.of []) (.tup [.own (0, 1) 8 0 (mPutFind l x).length, dB (mAreFinds (insF l x))]) (Tab.of [((0, 1), .arr false 8 yTFind (ML encTFind (mPutFind l x)))]) := by
  refine pco_of_run [1003] (E := ⟨[c12, c13, c73, c74, c75], [], []⟩) (m := false) (base := 0) (Env.ok_cons c12_ok (Env.ok_cons c13_ok (Env.ok_cons c73_ok (Env.ok_cons c74_ok (Env.ok_cons c75_ok Env.ok_nil))))) G_ok mix 300 6 Try.func11 (by kernel_rfl) rfl (by kernel_rfl) (by kernel_rfl) rfl ?_
  by_cases h1 : 0 ≤ mFindThing l x.Thing.Id
  · have h2 := insF_dup h1
    simp [Try.f11, h1, h2, mPutFind_no h2]
    omega
  · have h3 := putBy_ins (l := l) (x := x) (by omega)
    cases h : mAreFinds (insF l x) with
    | true =>
      simp [Try.f11, h1, h3, h, mPutFind_yes h]
      have hz := insF_len l x
      omega
    | false =>
      simp [Try.f11, h1, h3, h, mPutFind_no h]
      have hz := insF_len l x
      omega
theorem c11_ok : c11.ok Try.prog := mkCon_ok fun ⟨l, x⟩ hpre => c11_pc l x hpre
end Go.Proofs.Ytpnfkjbnhholfaa
