/- Contracts of the functions that the laws run. -/
import Derived.Test.Ytkccphdoolpmaaach06h
import Derived.Test.YtkccphdoolpmaaaEngB
namespace Go.Proofs.Ytkccphdoolpmaaa
open Go Go.Eng
set_option linter.unusedSimpArgs false
set_option linter.unusedVariables false
set_option maxRecDepth 10000
set_option maxHeartbeats 1000000
/-- slices.Clone[[]loop.example/g03007/impl.Fin -/
noncomputable def c88 : Con := mkCon 88 false (α := (List TFind)) (fun x => (fun (l : List TFind) => [encLTFind l]) x) (fun _ => []) (fun x => (fun (l : List TFind) => l.length ≤ 1073741824) x) (fun x => (fun (l : List TFind) => (.own (0, 1) 8 0 l.length : D)) x) (fun x => (fun (l : List TFind) => [((0, 1), .arr false 8 yTFind (ML encTFind l))]) x)
@[simp] theorem c88_f : c88.f = 88 := rfl
@[simp] theorem c88_own : c88.own = false := rfl
theorem c88_inj : ∀ u_ v_ : (List TFind), ((fun x => (fun (l : List TFind) => [encLTFind l]) x) u_).map nz = ((fun x => (fun (l : List TFind) => [encLTFind l]) x) v_).map nz → u_ = v_ := by
  intro u_ v_ h
  obtain l := u_
  obtain l' := v_
  simp [nz_lit, nz1_lit, nz_agg, nz_sl, nz1_sl, encLTFind] at h
  first | (simp [h]; done) | (obtain ⟨⟩ := h; simp_all; done) | simp_all
@[simp] theorem c88_fn (l : List TFind) : c88.fn [.sl false 8 yTFind (ML encTFind l)] [] = some ((fun (l : List TFind) => l.length ≤ 1073741824) l, (fun (l : List TFind) => (.own (0, 1) 8 0 l.length : D)) l, (fun (l : List TFind) => [((0, 1), .arr false 8 yTFind (ML encTFind l))]) l) :=
  mkCon_fn (fun x y h _ => c88_inj x y h) (l : (List TFind)) (by simp [nz, nz1, ML_nil, encLTFind]) rfl
@[simp] theorem c88_fn1 (s_l : Nat) (z_l : D) : c88.fn [.sl false s_l z_l []] [] = some ((fun (l : List TFind) => l.length ≤ 1073741824) [], (fun (l : List TFind) => (.own (0, 1) 8 0 l.length : D)) [], (fun (l : List TFind) => [((0, 1), .arr false 8 yTFind (ML encTFind l))]) []) :=
  mkCon_fn (fun x y h _ => c88_inj x y h) ([] : (List TFind)) (by simp [nz, nz1, ML_nil, encLTFind]) rfl
theorem c88_pc (l : List TFind) (hpre : l.length ≤ 1073741824) : PCo Try.prog 88 [encLTFind l] (Tab.of []) (.own (0, 1) 8 0 l.length) (Tab.of [((0, 1), .arr false 8 yTFind (ML encTFind l))]) := by
  by_cases hl : l = []
  · subst hl
    show PCo Try.prog 88 [.sl false 8 yTFind []] Tab.nil (.own (0, 1) 8 0 0) (Tab.of [((0, 1), .arr false 8 yTFind [])])
    refine pco_slice fun a cap => ?_
    cases a with
    | none =>
      refine pc_ghost (s' := 0) (z' := .any) ?_
      refine pco_of_run [] (tin := []) (E := ⟨[], []⟩) (m := false) (base := 0) Env.ok_nil G_ok mix 300 6 Try.func88 (by kernel_rfl) rfl (by kernel_rfl) (by kernel_rfl) rfl ?_
      simp [Try.f88]
    | some q =>
      refine pco_of_run [] (tin := []) (E := ⟨[], []⟩) (m := false) (base := 0) Env.ok_nil G_ok mix 300 6 Try.func88 (by kernel_rfl) rfl (by kernel_rfl) (by kernel_rfl) rfl ?_
      simp [Try.f88]
  · refine pco_of_run [] (E := ⟨[], []⟩) (m := false) (base := 0) Env.ok_nil G_ok mix 300 6 Try.func88 (by kernel_rfl) rfl (by kernel_rfl) (by kernel_rfl) rfl ?_
    simp [Try.f88, -nilS, nilS_ML hl]
    omega
theorem c88_ok : c88.ok Try.prog := mkCon_ok fun l hpre => c88_pc l hpre
/-- (loop.example/g03007/impl.sortedList[loop.example/g03007/impl.Find]).put -/
noncomputable def c90 : Con := mkCon 90 false (α := (List TFind) × TFind) (fun x => (fun (l : List TFind) (x : TFind) => ([.agg [.sl false 8 yTFind (ML encTFind l), .fn (.func 131) [] []], encTFind x] : List D)) x.1 x.2) (fun x => (fun (l : List TFind) (x : TFind) => ([] : List (Nm × OO))) x.1 x.2) (fun x => (fun (l : List TFind) (x : TFind) => l.length ≤ 1073741823) x.1 x.2) (fun x => (fun (l : List TFind) (x : TFind) => (.own (0, 1) 8 0 (putBy nFind x l).length : D)) x.1 x.2) (fun x => (fun (l : List TFind) (x : TFind) => ([((0, 1), .arr false 8 yTFind (ML encTFind (putBy nFind x l)))] : List (Nm × OO))) x.1 x.2)
@[simp] theorem c90_f : c90.f = 90 := rfl
@[simp] theorem c90_own : c90.own = false := rfl
theorem c90_inj : ∀ u_ v_ : (List TFind) × TFind, ((fun x => (fun (l : List TFind) (x : TFind) => ([.agg [.sl false 8 yTFind (ML encTFind l), .fn (.func 131) [] []], encTFind x] : List D)) x.1 x.2) u_).map nz = ((fun x => (fun (l : List TFind) (x : TFind) => ([.agg [.sl false 8 yTFind (ML encTFind l), .fn (.func 131) [] []], encTFind x] : List D)) x.1 x.2) v_).map nz → (fun x => (fun (l : List TFind) (x : TFind) => ([] : List (Nm × OO))) x.1 x.2) u_ = (fun x => (fun (l : List TFind) (x : TFind) => ([] : List (Nm × OO))) x.1 x.2) v_ → u_ = v_ := by
  intro u_ v_ h h2_
  obtain ⟨l, ⟨⟨x_Thing_Id, x_Thing_Kind, x_Thing_Colour, x_Thing_Size, x_Thing_Worth⟩, x_Place, x_At, x_Finder⟩⟩ := u_
  obtain ⟨l', ⟨⟨x_Thing_Id', x_Thing_Kind', x_Thing_Colour', x_Thing_Size', x_Thing_Worth'⟩, x_Place', x_At', x_Finder'⟩⟩ := v_
  simp [nz_lit, nz1_lit, nz_agg, nz_sl, nz1_sl, nz_sx, nz_el, nz1_el, nz_own, nz1_own, nz_ptr, nz_fn, nz_iface] at h h2_
  first | (simp [h, h2_]; done) | simp_all | grind
@[simp] theorem c90_fn (l : List TFind) (x_Thing_Id : Int) (x_Thing_Kind : Int) (x_Thing_Colour : Int) (x_Thing_Size : Int) (x_Thing_Worth : Int) (x_Place : Int) (x_At : Int) (x_Finder : Int) : c90.fn ([.agg [.sl false 8 yTFind (ML encTFind l), .fn (.func 131) [] []], .agg [.lit (.int .i64 x_Thing_Id), .lit (.int .i64 x_Thing_Kind), .lit (.int .i64 x_Thing_Colour), .lit (.int .i64 x_Thing_Size), .lit (.int .i64 x_Thing_Worth), .lit (.int .i64 x_Place), .lit (.int .i64 x_At), .lit (.int .i64 x_Finder)]]) ([]) = some (l.length ≤ 1073741823, .own (0, 1) 8 0 (putBy nFind (⟨⟨x_Thing_Id, x_Thing_Kind, x_Thing_Colour, x_Thing_Size, x_Thing_Worth⟩, x_Place, x_At, x_Finder⟩ : TFind) l).length, [((0, 1), .arr false 8 yTFind (ML encTFind (putBy nFind (⟨⟨x_Thing_Id, x_Thing_Kind, x_Thing_Colour, x_Thing_Size, x_Thing_Worth⟩, x_Place, x_At, x_Finder⟩ : TFind) l)))]) :=
  mkCon_fn c90_inj ((l, ⟨⟨x_Thing_Id, x_Thing_Kind, x_Thing_Colour, x_Thing_Size, x_Thing_Worth⟩, x_Place, x_At, x_Finder⟩) : (List TFind) × TFind) rfl rfl
theorem c90_pc (l : List TFind) (x : TFind) (hpre : l.length ≤ 1073741823) : PCo Try.prog 90 ([.agg [.sl false 8 yTFind (ML encTFind l), .fn (.func 131) [] []], encTFind x]) (Tab.of ([])) (.own (0, 1) 8 0 (putBy nFind x l).length) (Tab.of ([((0, 1), .arr false 8 yTFind (ML encTFind (putBy nFind x l)))])) := by
  refine pco_of_run [6, 1008] (E := ⟨[c132, c133, c131], []⟩) (m := false) (base := 0) (Env.ok_cons c132_ok (Env.ok_cons c133_ok (Env.ok_cons c131_ok Env.ok_nil))) G_ok mix 300 6 Try.func90 (by kernel_rfl) rfl (by kernel_rfl) (by kernel_rfl) rfl ?_
  have hb := indexBy_bd (want := geN nFind (nFind x)) l 0
  have hl : ¬ (l.length : Int) < 0 := by omega
  simp only [nFind] at hb
  by_cases hneg : indexBy (geN nFind (nFind x)) 0 l < 0
  · have e1 : putAt nFind (nFind x) l = l.length := by unfold putAt; exact if_pos hneg
    have e2 : putRest nFind (nFind x) l = l.length := by unfold putRest; rw [e1]; simp
    have e3 : putBy nFind x l = l ++ [x] := by simp only [putBy]; rw [e1, e2]; simp
    rw [e3]
    simp only [nFind] at hneg
    simp [Try.f90, hneg, ↓ML_getD_TFind]
    omega
  · obtain ⟨k, hk, hkl⟩ : ∃ k : Nat, indexBy (geN nFind (nFind x)) 0 l = k ∧ k < l.length := ⟨(indexBy (geN nFind (nFind x)) 0 l).toNat, by simp only [nFind] at *; omega, by simp only [nFind] at *; omega⟩
    have e1 : putAt nFind (nFind x) l = k := by unfold putAt; rw [hk]; simp; intro h; omega
    by_cases hq : nFind (l[k]?.getD default) = nFind x
    · have e2 : putRest nFind (nFind x) l = k + 1 := by unfold putRest; rw [e1]; exact if_pos ⟨hkl, hq⟩
      have e3 : putBy nFind x l = l.take k ++ x :: l.drop (k + 1) := by simp only [putBy]; rw [e1, e2]
      rw [e3]
      simp only [nFind] at hk hq
      simp [Try.f90, hk, hq, ↓ML_getD_TFind]
      omega
    · have e2 : putRest nFind (nFind x) l = k := by unfold putRest; rw [e1]; exact if_neg fun h => hq h.2
      have e3 : putBy nFind x l = l.take k ++ x :: l.drop k := by simp only [putBy]; rw [e1, e2]
      rw [e3]
      simp only [nFind] at hk hq
      simp [Try.f90, hk, hq, ↓ML_getD_TFind]
      omega
theorem c90_ok : c90.ok Try.prog := mkCon_ok fun ⟨l, x⟩ hpre => c90_pc l x hpre
def insF (l : List TFind) (x : TFind) : List TFind := l.take (putAt nFind x.Thing.Id l) ++ x :: l.drop (putAt nFind x.Thing.Id l)
def mPutFind (l : List TFind) (x : TFind) : List TFind := if mAreFinds (insF l x) then insF l x else l
theorem mPutFind_yes {l : List TFind} {x : TFind} (h : mAreFinds (insF l x) = true) : mPutFind l x = insF l x := by simp [mPutFind, h]
theorem mPutFind_no {l : List TFind} {x : TFind} (h : mAreFinds (insF l x) = false) : mPutFind l x = l := by simp [mPutFind, h]
theorem insF_len (l : List TFind) (x : TFind) : (insF l x).length = l.length + 1 := by
  have := putAt_le nFind x.Thing.Id l
  simp [insF]; omega
theorem mPutFind_len (l : List TFind) (x : TFind) : (mPutFind l x).length ≤ l.length + 1 := by
  simp only [mPutFind]; split
  · rw [insF_len]; omega
  · omega
theorem asc_low {ok : TFind → Bool} {num : TFind → Int} : ∀ {b : List TFind} {q : Int}, ascBy ok num (some q) b = true → ∀ y ∈ b, q < num y
  | [], _, _, _, hy => by simp at hy
  | x :: b, q, h, y, hy => by
    simp only [ascBy, Bool.and_eq_true, decide_eq_true_eq] at h
    rcases List.mem_cons.1 hy with rfl | hy
    · exact h.1.2
    · exact Int.lt_trans h.1.2 (asc_low h.2 y hy)
theorem asc_mid {ok : TFind → Bool} {num : TFind → Int} {x : TFind} {b : List TFind} : ∀ {a : List TFind} {o : Option Int}, ascBy ok num o (a ++ x :: b) = true → (∀ y ∈ a, num y < num x) ∧ ∀ y ∈ b, num x < num y
  | [], o, h => by
    simp only [List.nil_append, ascBy, Bool.and_eq_true] at h
    exact ⟨by simp, asc_low h.2⟩
  | z :: a, o, h => by
    simp only [List.cons_append, ascBy, Bool.and_eq_true] at h
    have h2 := asc_mid h.2
    refine ⟨fun y hy => ?_, h2.2⟩
    rcases List.mem_cons.1 hy with rfl | hy
    · exact asc_low h.2 x (by simp)
    · exact h2.1 y hy
theorem index_has {n : Int} : ∀ (l : List TFind) (i : Int), 0 ≤ i → (0 ≤ indexBy (wantN nFind n) i l ↔ ∃ y ∈ l, y.Thing.Id = n)
  | [], i, _ => by simp [indexBy]
  | x :: r, i, hi => by
    simp only [indexBy]
    by_cases h : x.Thing.Id = n
    · rw [if_pos (by simp [wantN, h])]
      exact ⟨fun _ => ⟨x, by simp, h⟩, fun _ => hi⟩
    · rw [if_neg (by simp [wantN, h]), index_has r (i + 1) (by omega)]
      constructor
      · rintro ⟨y, hy, e⟩; exact ⟨y, by simp [hy], e⟩
      · rintro ⟨y, hy, e⟩
        rcases List.mem_cons.1 hy with rfl | hy
        · exact absurd e h
        · exact ⟨y, hy, e⟩
theorem insF_dup {l : List TFind} {x : TFind} (h : 0 ≤ mFindThing l x.Thing.Id) : mAreFinds (insF l x) = false := by
  rw [mFindThing, index_has l 0 (by omega)] at h
  obtain ⟨y, hy, e⟩ := h
  cases ha : mAreFinds (insF l x) with
  | false => rfl
  | true =>
    simp only [mAreFinds, insF, Bool.and_eq_true] at ha
    have hm := asc_mid ha.2
    rw [← List.take_append_drop (putAt nFind x.Thing.Id l) l, List.mem_append] at hy
    simp only [nFind] at hm
    rcases hy with hy | hy
    · have := hm.1 y hy; omega
    · have := hm.2 y hy; omega
theorem putBy_ins {l : List TFind} {x : TFind} (h : mFindThing l x.Thing.Id < 0) : putBy nFind x l = insF l x := by
  have h2 : ¬ ∃ y ∈ l, y.Thing.Id = x.Thing.Id := by
    rw [← index_has l 0 (by omega)]
    simp only [mFindThing] at h; omega
  have h3 : putRest nFind x.Thing.Id l = putAt nFind x.Thing.Id l := by
    simp only [putRest]
    rw [if_neg]
    rintro ⟨h4, h5⟩
    exact h2 ⟨_, getD_mem (d := default) h4, h5⟩
  simp only [putBy, insF, nFind]
  rw [h3]
/-- loop.example/g03007/impl.PutFind -/
noncomputable def c27 : Con := mkCon 27 false (α := (List TFind) × TFind) (fun x => (fun (l : List TFind) (x : TFind) => [encLTFind l, encTFind x]) x.1 x.2) (fun _ => []) (fun x => (fun (l : List TFind) (x : TFind) => l.length ≤ 1073741823) x.1 x.2) (fun x => (fun (l : List TFind) (x : TFind) => (.tup [.own (0, 1) 8 0 (mPutFind l x).length, dB (mAreFinds (insF l x))] : D)) x.1 x.2) (fun x => (fun (l : List TFind) (x : TFind) => [((0, 1), .arr false 8 yTFind (ML encTFind (mPutFind l x)))]) x.1 x.2)
@[simp] theorem c27_f : c27.f = 27 := rfl
@[simp] theorem c27_own : c27.own = false := rfl
theorem c27_inj : ∀ u_ v_ : (List TFind) × TFind, ((fun x => (fun (l : List TFind) (x : TFind) => [encLTFind l, encTFind x]) x.1 x.2) u_).map nz = ((fun x => (fun (l : List TFind) (x : TFind) => [encLTFind l, encTFind x]) x.1 x.2) v_).map nz → u_ = v_ := by
  intro u_ v_ h
  obtain ⟨l, ⟨⟨x_Thing_Id, x_Thing_Kind, x_Thing_Colour, x_Thing_Size, x_Thing_Worth⟩, x_Place, x_At, x_Finder⟩⟩ := u_
  obtain ⟨l', ⟨⟨x_Thing_Id', x_Thing_Kind', x_Thing_Colour', x_Thing_Size', x_Thing_Worth'⟩, x_Place', x_At', x_Finder'⟩⟩ := v_
  simp [nz_lit, nz1_lit, nz_agg, nz_sl, nz1_sl, encLTFind, encTFind, encTThing] at h
  first | (simp [h]; done) | (obtain ⟨⟩ := h; simp_all; done) | simp_all
@[simp] theorem c27_fn (l : List TFind) (x_Thing_Id : Int) (x_Thing_Kind : Int) (x_Thing_Colour : Int) (x_Thing_Size : Int) (x_Thing_Worth : Int) (x_Place : Int) (x_At : Int) (x_Finder : Int) : c27.fn [.sl false 8 yTFind (ML encTFind l), .agg [.lit (.int .i64 x_Thing_Id), .lit (.int .i64 x_Thing_Kind), .lit (.int .i64 x_Thing_Colour), .lit (.int .i64 x_Thing_Size), .lit (.int .i64 x_Thing_Worth), .lit (.int .i64 x_Place), .lit (.int .i64 x_At), .lit (.int .i64 x_Finder)]] [] = some ((fun (l : List TFind) (x : TFind) => l.length ≤ 1073741823) l ⟨⟨x_Thing_Id, x_Thing_Kind, x_Thing_Colour, x_Thing_Size, x_Thing_Worth⟩, x_Place, x_At, x_Finder⟩, (fun (l : List TFind) (x : TFind) => (.tup [.own (0, 1) 8 0 (mPutFind l x).length, dB (mAreFinds (insF l x))] : D)) l ⟨⟨x_Thing_Id, x_Thing_Kind, x_Thing_Colour, x_Thing_Size, x_Thing_Worth⟩, x_Place, x_At, x_Finder⟩, (fun (l : List TFind) (x : TFind) => [((0, 1), .arr false 8 yTFind (ML encTFind (mPutFind l x)))]) l ⟨⟨x_Thing_Id, x_Thing_Kind, x_Thing_Colour, x_Thing_Size, x_Thing_Worth⟩, x_Place, x_At, x_Finder⟩) :=
  mkCon_fn (fun x y h _ => c27_inj x y h) ((l, ⟨⟨x_Thing_Id, x_Thing_Kind, x_Thing_Colour, x_Thing_Size, x_Thing_Worth⟩, x_Place, x_At, x_Finder⟩) : (List TFind) × TFind) (by simp [nz, nz1, ML_nil, encLTFind, encTFind, encTThing]) rfl
@[simp] theorem c27_fn1 (s_l : Nat) (z_l : D) (x_Thing_Id : Int) (x_Thing_Kind : Int) (x_Thing_Colour : Int) (x_Thing_Size : Int) (x_Thing_Worth : Int) (x_Place : Int) (x_At : Int) (x_Finder : Int) : c27.fn [.sl false s_l z_l [], .agg [.lit (.int .i64 x_Thing_Id), .lit (.int .i64 x_Thing_Kind), .lit (.int .i64 x_Thing_Colour), .lit (.int .i64 x_Thing_Size), .lit (.int .i64 x_Thing_Worth), .lit (.int .i64 x_Place), .lit (.int .i64 x_At), .lit (.int .i64 x_Finder)]] [] = some ((fun (l : List TFind) (x : TFind) => l.length ≤ 1073741823) [] ⟨⟨x_Thing_Id, x_Thing_Kind, x_Thing_Colour, x_Thing_Size, x_Thing_Worth⟩, x_Place, x_At, x_Finder⟩, (fun (l : List TFind) (x : TFind) => (.tup [.own (0, 1) 8 0 (mPutFind l x).length, dB (mAreFinds (insF l x))] : D)) [] ⟨⟨x_Thing_Id, x_Thing_Kind, x_Thing_Colour, x_Thing_Size, x_Thing_Worth⟩, x_Place, x_At, x_Finder⟩, (fun (l : List TFind) (x : TFind) => [((0, 1), .arr false 8 yTFind (ML encTFind (mPutFind l x)))]) [] ⟨⟨x_Thing_Id, x_Thing_Kind, x_Thing_Colour, x_Thing_Size, x_Thing_Worth⟩, x_Place, x_At, x_Finder⟩) :=
  mkCon_fn (fun x y h _ => c27_inj x y h) (([], ⟨⟨x_Thing_Id, x_Thing_Kind, x_Thing_Colour, x_Thing_Size, x_Thing_Worth⟩, x_Place, x_At, x_Finder⟩) : (List TFind) × TFind) (by simp [nz, nz1, ML_nil, encLTFind, encTFind, encTThing]) rfl
theorem c27_pc (l : List TFind) (x : TFind) (hpre : l.length ≤ 1073741823) : PCo Try.prog 27 [encLTFind l, encTFind x] (Tab.of []) (.tup [.own (0, 1) 8 0 (mPutFind l x).length, dB (mAreFinds (insF l x))]) (Tab.of [((0, 1), .arr false 8 yTFind (ML encTFind (mPutFind l x)))]) := by
  refine pco_of_run [1003] (E := ⟨[c87, c88, c89, c90, c91], []⟩) (m := false) (base := 0) (Env.ok_cons c87_ok (Env.ok_cons c88_ok (Env.ok_cons c89_ok (Env.ok_cons c90_ok (Env.ok_cons c91_ok Env.ok_nil))))) G_ok mix 300 6 Try.func27 (by kernel_rfl) rfl (by kernel_rfl) (by kernel_rfl) rfl ?_
  by_cases h1 : 0 ≤ mFindThing l x.Thing.Id
  · have h2 := insF_dup h1
    simp [Try.f27, h1, h2, mPutFind_no h2]
    omega
  · have h3 := putBy_ins (l := l) (x := x) (by omega)
    cases h : mAreFinds (insF l x) with
    | true =>
      simp [Try.f27, h1, h3, h, mPutFind_yes h]
      have hz := insF_len l x
      omega
    | false =>
      simp [Try.f27, h1, h3, h, mPutFind_no h]
      have hz := insF_len l x
      omega
theorem c27_ok : c27.ok Try.prog := mkCon_ok fun ⟨l, x⟩ hpre => c27_pc l x hpre
/-- loop.example/g03007/spec.PutFind -/
noncomputable def c24 : Con := mkCon 24 false (α := (List TFind) × TFind) (fun x => (fun (l : List TFind) (x : TFind) => [encLTFind l, encTFind x]) x.1 x.2) (fun _ => []) (fun x => (fun (l : List TFind) (x : TFind) => l.length ≤ 1073741823) x.1 x.2) (fun x => (fun (l : List TFind) (x : TFind) => (.tup [.own (0, 1) 8 0 (mPutFind l x).length, dB (mAreFinds (insF l x))] : D)) x.1 x.2) (fun x => (fun (l : List TFind) (x : TFind) => [((0, 1), .arr false 8 yTFind (ML encTFind (mPutFind l x)))]) x.1 x.2)
@[simp] theorem c24_f : c24.f = 24 := rfl
@[simp] theorem c24_own : c24.own = false := rfl
theorem c24_inj : ∀ u_ v_ : (List TFind) × TFind, ((fun x => (fun (l : List TFind) (x : TFind) => [encLTFind l, encTFind x]) x.1 x.2) u_).map nz = ((fun x => (fun (l : List TFind) (x : TFind) => [encLTFind l, encTFind x]) x.1 x.2) v_).map nz → u_ = v_ := by
  intro u_ v_ h
  obtain ⟨l, ⟨⟨x_Thing_Id, x_Thing_Kind, x_Thing_Colour, x_Thing_Size, x_Thing_Worth⟩, x_Place, x_At, x_Finder⟩⟩ := u_
  obtain ⟨l', ⟨⟨x_Thing_Id', x_Thing_Kind', x_Thing_Colour', x_Thing_Size', x_Thing_Worth'⟩, x_Place', x_At', x_Finder'⟩⟩ := v_
  simp [nz_lit, nz1_lit, nz_agg, nz_sl, nz1_sl, encLTFind, encTFind, encTThing] at h
  first | (simp [h]; done) | (obtain ⟨⟩ := h; simp_all; done) | simp_all
@[simp] theorem c24_fn (l : List TFind) (x_Thing_Id : Int) (x_Thing_Kind : Int) (x_Thing_Colour : Int) (x_Thing_Size : Int) (x_Thing_Worth : Int) (x_Place : Int) (x_At : Int) (x_Finder : Int) : c24.fn [.sl false 8 yTFind (ML encTFind l), .agg [.lit (.int .i64 x_Thing_Id), .lit (.int .i64 x_Thing_Kind), .lit (.int .i64 x_Thing_Colour), .lit (.int .i64 x_Thing_Size), .lit (.int .i64 x_Thing_Worth), .lit (.int .i64 x_Place), .lit (.int .i64 x_At), .lit (.int .i64 x_Finder)]] [] = some ((fun (l : List TFind) (x : TFind) => l.length ≤ 1073741823) l ⟨⟨x_Thing_Id, x_Thing_Kind, x_Thing_Colour, x_Thing_Size, x_Thing_Worth⟩, x_Place, x_At, x_Finder⟩, (fun (l : List TFind) (x : TFind) => (.tup [.own (0, 1) 8 0 (mPutFind l x).length, dB (mAreFinds (insF l x))] : D)) l ⟨⟨x_Thing_Id, x_Thing_Kind, x_Thing_Colour, x_Thing_Size, x_Thing_Worth⟩, x_Place, x_At, x_Finder⟩, (fun (l : List TFind) (x : TFind) => [((0, 1), .arr false 8 yTFind (ML encTFind (mPutFind l x)))]) l ⟨⟨x_Thing_Id, x_Thing_Kind, x_Thing_Colour, x_Thing_Size, x_Thing_Worth⟩, x_Place, x_At, x_Finder⟩) :=
  mkCon_fn (fun x y h _ => c24_inj x y h) ((l, ⟨⟨x_Thing_Id, x_Thing_Kind, x_Thing_Colour, x_Thing_Size, x_Thing_Worth⟩, x_Place, x_At, x_Finder⟩) : (List TFind) × TFind) (by simp [nz, nz1, ML_nil, encLTFind, encTFind, encTThing]) rfl
@[simp] theorem c24_fn1 (s_l : Nat) (z_l : D) (x_Thing_Id : Int) (x_Thing_Kind : Int) (x_Thing_Colour : Int) (x_Thing_Size : Int) (x_Thing_Worth : Int) (x_Place : Int) (x_At : Int) (x_Finder : Int) : c24.fn [.sl false s_l z_l [], .agg [.lit (.int .i64 x_Thing_Id), .lit (.int .i64 x_Thing_Kind), .lit (.int .i64 x_Thing_Colour), .lit (.int .i64 x_Thing_Size), .lit (.int .i64 x_Thing_Worth), .lit (.int .i64 x_Place), .lit (.int .i64 x_At), .lit (.int .i64 x_Finder)]] [] = some ((fun (l : List TFind) (x : TFind) => l.length ≤ 1073741823) [] ⟨⟨x_Thing_Id, x_Thing_Kind, x_Thing_Colour, x_Thing_Size, x_Thing_Worth⟩, x_Place, x_At, x_Finder⟩, (fun (l : List TFind) (x : TFind) => (.tup [.own (0, 1) 8 0 (mPutFind l x).length, dB (mAreFinds (insF l x))] : D)) [] ⟨⟨x_Thing_Id, x_Thing_Kind, x_Thing_Colour, x_Thing_Size, x_Thing_Worth⟩, x_Place, x_At, x_Finder⟩, (fun (l : List TFind) (x : TFind) => [((0, 1), .arr false 8 yTFind (ML encTFind (mPutFind l x)))]) [] ⟨⟨x_Thing_Id, x_Thing_Kind, x_Thing_Colour, x_Thing_Size, x_Thing_Worth⟩, x_Place, x_At, x_Finder⟩) :=
  mkCon_fn (fun x y h _ => c24_inj x y h) (([], ⟨⟨x_Thing_Id, x_Thing_Kind, x_Thing_Colour, x_Thing_Size, x_Thing_Worth⟩, x_Place, x_At, x_Finder⟩) : (List TFind) × TFind) (by simp [nz, nz1, ML_nil, encLTFind, encTFind, encTThing]) rfl
theorem c24_pc (l : List TFind) (x : TFind) (hpre : l.length ≤ 1073741823) : PCo Try.prog 24 [encLTFind l, encTFind x] (Tab.of []) (.tup [.own (0, 1) 8 0 (mPutFind l x).length, dB (mAreFinds (insF l x))]) (Tab.of [((0, 1), .arr false 8 yTFind (ML encTFind (mPutFind l x)))]) := by
  refine pco_of_run [1004] (E := ⟨[c85], []⟩) (m := false) (base := 0) (Env.ok_cons c85_ok Env.ok_nil) G_ok mix 300 6 Try.func24 (by kernel_rfl) rfl (by kernel_rfl) (by kernel_rfl) rfl ?_
  simp [Try.f24]
  refine loop_inv (fun k : Nat => k ≤ l.length ∧ indexBy (geN nFind x.Thing.Id) 0 l = indexBy (geN nFind x.Thing.Id) k (l.drop k)) (fun k => [(0, encLTFind l), (3, .ptr (0, 1) 0), (6, dI k)]) (fun _ => [((0, 1), .box (encTFind x))]) 2 (fun k => l.length - k) 0 400 (by simp) (by simp) (by simp) ?_
  intro k ⟨hk, hi⟩
  simp
  refine ⟨fun hlt hc => ?_, fun hge => ?_⟩
  · rw [indexBy_at (d := default) hlt] at hi
    have hg : geN nFind x.Thing.Id (l[k]?.getD default) = false := decide_eq_false (show ¬ x.Thing.Id ≤ (l[k]?.getD default).Thing.Id by omega)
    rw [if_neg (by simp [hg])] at hi
    exact ⟨by omega, Again.mk (k + 1) ⟨by omega, hi⟩ (by simp) (by first | omega | (simp; omega))⟩
  · have hat : putAt nFind x.Thing.Id l = k := by
      unfold putAt
      by_cases hlt : k < l.length
      · rw [indexBy_at (d := default) hlt] at hi
        have hg : geN nFind x.Thing.Id (l[k]?.getD default) = true := decide_eq_true (show x.Thing.Id ≤ (l[k]?.getD default).Thing.Id by have := hge hlt; omega)
        rw [if_pos hg] at hi; rw [hi]; simp; intro h; omega
      · rw [indexBy_end (by omega)] at hi; rw [hi]; simp; omega
    have hins : l.take k ++ x :: l.drop k = insF l x := by simp only [insF]; rw [hat]
    have hlen : min k l.length + 1 + (l.length - k) = (insF l x).length := by rw [insF_len]; omega
    have hl2 := insF_len l x
    simp only [hins, hlen, List.take_length, ite_self]
    cases h : mAreFinds (insF l x) with
    | true => rw [mPutFind_yes h]; simp; omega
    | false => rw [mPutFind_no h]; simp; omega
theorem c24_ok : c24.ok Try.prog := mkCon_ok fun ⟨l, x⟩ hpre => c24_pc l x hpre
/-- loop.example/g03007/laws.FnExactPutFind -/
theorem law4 (l : List TFind) (wl : wfLTFind l) (x : TFind) (wx : wfTFind x) : PCo Try.prog 4 [encLTFind l, encTFind x] (Tab.of []) (dB true) (Tab.of []) := by
  obtain ⟨⟨x_Thing_Id, x_Thing_Kind, x_Thing_Colour, x_Thing_Size, x_Thing_Worth⟩, x_Place, x_At, x_Finder⟩ := x
  refine pco_of_run [1005, 1024, 2000023, 2000024, 2000027, 2000028, 2000029, 2000030] (E := ⟨[c23, c24, c25, c26, c27, c28, c29, c30], []⟩) (m := false) (base := 0) (Env.ok_cons c23_ok (Env.ok_cons c24_ok (Env.ok_cons c25_ok (Env.ok_cons c26_ok (Env.ok_cons c27_ok (Env.ok_cons c28_ok (Env.ok_cons c29_ok (Env.ok_cons c30_ok Env.ok_nil)))))))) G_ok mix 400 6 Try.func4 (by kernel_rfl) rfl (by kernel_rfl) (by kernel_rfl) rfl ?_
  simp [Try.f4]
  have h1 : l.length ≤ maxLen := wl.1
  have hb := mPutFind_len l ⟨⟨x_Thing_Id, x_Thing_Kind, x_Thing_Colour, x_Thing_Size, x_Thing_Worth⟩, x_Place, x_At, x_Finder⟩
  refine ⟨h1, fun h => ?_⟩
  split at h
  · omega
  · repeat' (first | omega | refine And.intro ?_ ?_ | intro _)
theorem law4_pc (D0 : D) (h0 : Sh G 9 31 D0) (D1 : D) (h1 : Sh G 9 35 D1) : PC Try.prog 4 [D0, D1] (dB true) [] := by
  obtain ⟨l, rfl, wl⟩ := sh31 (n := 5) h0
  obtain ⟨x, rfl, wx⟩ := sh35 (n := 6) h1
  exact law4 l wl x wx

end Go.Proofs.Ytkccphdoolpmaaa
