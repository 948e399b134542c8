/- Contracts of the functions that the laws run. -/
import Derived.Test.YtpnfkjbnhholfaaEngB
import Derived.Test.YtpnfkjbnhholfaaEngB
import Derived.Test.Ytpnfkjbnhholfaadr6
import Derived.Test.Ytpnfkjbnhholfaach06p
import Derived.Test.Ytpnfkjbnhholfaach06c
import Derived.Test.Ytpnfkjbnhholfaalawx
import Derived.Test.YtpnfkjbnhholfaaEngB
namespace Go.Proofs.Ytpnfkjbnhholfaa
open Go Go.Eng
set_option linter.unusedSimpArgs false
set_option linter.unusedVariables false
set_option maxRecDepth 10000
set_option maxHeartbeats 1000000
theorem ins_mem (l : List TFind) (x : TFind) : x ∈ insF l x := by simp [insF]
theorem ins_find {l : List TFind} {x : TFind} (h : mAreFinds (insF l x) = true) : 0 ≤ mFindThing (insF l x) x.Thing.Id ∧ mFindThing (insF l x) x.Thing.Id < (insF l x).length ∧ (insF l x)[(mFindThing (insF l x) x.Thing.Id).toNat]?.getD default = x := by
  simp only [mAreFinds, Bool.and_eq_true] at h
  exact index_uniq h.2 (ins_mem l x)
theorem ins_has {l : List TFind} {x : TFind} : mHas (pick (placeIs x.Place) nFind (insF l x)) x.Thing.Id = true :=
  pick_has (num := nFind) (ins_mem l x) (by simp [placeIs])
theorem finds_asc {l : List TFind} {w : TFind → Bool} (h : mAreFinds l = true) : mAscL (pick w nFind l) = true := by
  simp only [mAreFinds, Bool.and_eq_true] at h
  exact pick_asc h.2
/-- loop.example/g03007/impl.PutFind -/
noncomputable def c11f : Con := mkCon 11 false (α := (List TFind) × TFind) (fun x => (fun (l : List TFind) (x : TFind) => [encLTFind l, encTFind x]) x.1 x.2) (fun _ => []) (fun x => (fun (l : List TFind) (x : TFind) => l.length ≤ 1073741823) x.1 x.2) (fun x => (fun (l : List TFind) (x : TFind) => (.tup [.sl false 8 yTFind (ML encTFind (mPutFind l x)), dB (mAreFinds (insF l x))] : D)) x.1 x.2) (fun x => (fun (l : List TFind) (x : TFind) => []) x.1 x.2)
@[simp] theorem c11f_f : c11f.f = 11 := rfl
@[simp] theorem c11f_own : c11f.own = false := rfl
theorem c11f_inj : ∀ u_ v_ : (List TFind) × TFind, ((fun x => (fun (l : List TFind) (x : TFind) => [encLTFind l, encTFind x]) x.1 x.2) u_).map nz = ((fun x => (fun (l : List TFind) (x : TFind) => [encLTFind l, encTFind x]) x.1 x.2) v_).map nz → u_ = v_ := by
  intro u_ v_ h
  obtain ⟨l, ⟨⟨x_Thing_Id, x_Thing_Kind, x_Thing_Colour, x_Thing_Size, x_Thing_Worth⟩, x_Place, x_At, x_Finder⟩⟩ := u_
  obtain ⟨l', ⟨⟨x_Thing_Id', x_Thing_Kind', x_Thing_Colour', x_Thing_Size', x_Thing_Worth'⟩, x_Place', x_At', x_Finder'⟩⟩ := v_
  simp [nz_lit, nz1_lit, nz_agg, nz_sl, nz1_sl, encLTFind, encTFind, encTThing] at h
  first | (simp [h]; done) | (obtain ⟨⟩ := h; simp_all; done) | simp_all
@[simp] theorem c11f_fn (l : List TFind) (x_Thing_Id : Int) (x_Thing_Kind : Int) (x_Thing_Colour : Int) (x_Thing_Size : Int) (x_Thing_Worth : Int) (x_Place : Int) (x_At : Int) (x_Finder : Int) : c11f.fn [.sl false 8 yTFind (ML encTFind l), .agg [.lit (.int .i64 x_Thing_Id), .lit (.int .i64 x_Thing_Kind), .lit (.int .i64 x_Thing_Colour), .lit (.int .i64 x_Thing_Size), .lit (.int .i64 x_Thing_Worth), .lit (.int .i64 x_Place), .lit (.int .i64 x_At), .lit (.int .i64 x_Finder)]] [] = some ((fun (l : List TFind) (x : TFind) => l.length ≤ 1073741823) l ⟨⟨x_Thing_Id, x_Thing_Kind, x_Thing_Colour, x_Thing_Size, x_Thing_Worth⟩, x_Place, x_At, x_Finder⟩, (fun (l : List TFind) (x : TFind) => (.tup [.sl false 8 yTFind (ML encTFind (mPutFind l x)), dB (mAreFinds (insF l x))] : D)) l ⟨⟨x_Thing_Id, x_Thing_Kind, x_Thing_Colour, x_Thing_Size, x_Thing_Worth⟩, x_Place, x_At, x_Finder⟩, (fun (l : List TFind) (x : TFind) => []) l ⟨⟨x_Thing_Id, x_Thing_Kind, x_Thing_Colour, x_Thing_Size, x_Thing_Worth⟩, x_Place, x_At, x_Finder⟩) :=
  mkCon_fn (fun x y h _ => c11f_inj x y h) ((l, ⟨⟨x_Thing_Id, x_Thing_Kind, x_Thing_Colour, x_Thing_Size, x_Thing_Worth⟩, x_Place, x_At, x_Finder⟩) : (List TFind) × TFind) (by simp [nz, nz1, ML_nil, encLTFind, encTFind, encTThing]) rfl
@[simp] theorem c11f_fn1 (s_l : Nat) (z_l : D) (x_Thing_Id : Int) (x_Thing_Kind : Int) (x_Thing_Colour : Int) (x_Thing_Size : Int) (x_Thing_Worth : Int) (x_Place : Int) (x_At : Int) (x_Finder : Int) : c11f.fn [.sl false s_l z_l [], .agg [.lit (.int .i64 x_Thing_Id), .lit (.int .i64 x_Thing_Kind), .lit (.int .i64 x_Thing_Colour), .lit (.int .i64 x_Thing_Size), .lit (.int .i64 x_Thing_Worth), .lit (.int .i64 x_Place), .lit (.int .i64 x_At), .lit (.int .i64 x_Finder)]] [] = some ((fun (l : List TFind) (x : TFind) => l.length ≤ 1073741823) [] ⟨⟨x_Thing_Id, x_Thing_Kind, x_Thing_Colour, x_Thing_Size, x_Thing_Worth⟩, x_Place, x_At, x_Finder⟩, (fun (l : List TFind) (x : TFind) => (.tup [.sl false 8 yTFind (ML encTFind (mPutFind l x)), dB (mAreFinds (insF l x))] : D)) [] ⟨⟨x_Thing_Id, x_Thing_Kind, x_Thing_Colour, x_Thing_Size, x_Thing_Worth⟩, x_Place, x_At, x_Finder⟩, (fun (l : List TFind) (x : TFind) => []) [] ⟨⟨x_Thing_Id, x_Thing_Kind, x_Thing_Colour, x_Thing_Size, x_Thing_Worth⟩, x_Place, x_At, x_Finder⟩) :=
  mkCon_fn (fun x y h _ => c11f_inj x y h) (([], ⟨⟨x_Thing_Id, x_Thing_Kind, x_Thing_Colour, x_Thing_Size, x_Thing_Worth⟩, x_Place, x_At, x_Finder⟩) : (List TFind) × TFind) (by simp [nz, nz1, ML_nil, encLTFind, encTFind, encTThing]) rfl
theorem c11f_pc (l : List TFind) (x : TFind) (hpre : l.length ≤ 1073741823) : PCo Try.prog 11 [encLTFind l, encTFind x] (Tab.of []) (.tup [.sl false 8 yTFind (ML encTFind (mPutFind l x)), dB (mAreFinds (insF l x))]) (Tab.of []) := by
  refine pco_of_run [1003] (E := ⟨[c12, c13, c73, c74, c75], [], []⟩) (m := false) (base := 0) (Env.ok_cons c12_ok (Env.ok_cons c13_ok (Env.ok_cons c73_ok (Env.ok_cons c74_ok (Env.ok_cons c75_ok Env.ok_nil))))) G_ok mix 300 6 Try.func11 (by kernel_rfl) rfl (by kernel_rfl) (by kernel_rfl) rfl ?_
  by_cases h1 : 0 ≤ mFindThing l x.Thing.Id
  · have h2 := insF_dup h1
    simp [Try.f11, h1, h2, mPutFind_no h2]
    omega
  · have h3 := putBy_ins (l := l) (x := x) (by omega)
    cases h : mAreFinds (insF l x) with
    | true =>
      simp [Try.f11, h1, h3, h, mPutFind_yes h]
      have hz := insF_len l x
      omega
    | false =>
      simp [Try.f11, h1, h3, h, mPutFind_no h]
      have hz := insF_len l x
      omega
theorem c11f_ok : c11f.ok Try.prog := mkCon_ok fun ⟨l, x⟩ hpre => c11f_pc l x hpre
/-- loop.example/g03007/impl.FoundAt -/
noncomputable def c15f : Con := mkCon 15 false (α := (List TFind) × Int) (fun x => (fun (l : List TFind) (k : Int) => [encLTFind l, dI k]) x.1 x.2) (fun _ => []) (fun x => (fun (l : List TFind) (k : Int) => l.length ≤ 1073741823) x.1 x.2) (fun x => (fun (l : List TFind) (k : Int) => (encLI (pick (placeIs k) nFind l) : D)) x.1 x.2) (fun x => (fun (l : List TFind) (k : Int) => []) x.1 x.2)
@[simp] theorem c15f_f : c15f.f = 15 := rfl
@[simp] theorem c15f_own : c15f.own = false := rfl
theorem c15f_inj : ∀ u_ v_ : (List TFind) × Int, ((fun x => (fun (l : List TFind) (k : Int) => [encLTFind l, dI k]) x.1 x.2) u_).map nz = ((fun x => (fun (l : List TFind) (k : Int) => [encLTFind l, dI k]) x.1 x.2) v_).map nz → u_ = v_ := by
  intro u_ v_ h
  obtain ⟨l, k⟩ := u_
  obtain ⟨l', k'⟩ := v_
  simp [nz_lit, nz1_lit, nz_agg, nz_sl, nz1_sl, encLTFind] at h
  first | (simp [h]; done) | (obtain ⟨⟩ := h; simp_all; done) | simp_all
@[simp] theorem c15f_fn (l : List TFind) (k : Int) : c15f.fn [.sl false 8 yTFind (ML encTFind l), .lit (.int .i64 k)] [] = some ((fun (l : List TFind) (k : Int) => l.length ≤ 1073741823) l k, (fun (l : List TFind) (k : Int) => (encLI (pick (placeIs k) nFind l) : D)) l k, (fun (l : List TFind) (k : Int) => []) l k) :=
  mkCon_fn (fun x y h _ => c15f_inj x y h) ((l, k) : (List TFind) × Int) (by simp [nz, nz1, ML_nil, encLTFind]) rfl
@[simp] theorem c15f_fn1 (s_l : Nat) (z_l : D) (k : Int) : c15f.fn [.sl false s_l z_l [], .lit (.int .i64 k)] [] = some ((fun (l : List TFind) (k : Int) => l.length ≤ 1073741823) [] k, (fun (l : List TFind) (k : Int) => (encLI (pick (placeIs k) nFind l) : D)) [] k, (fun (l : List TFind) (k : Int) => []) [] k) :=
  mkCon_fn (fun x y h _ => c15f_inj x y h) (([], k) : (List TFind) × Int) (by simp [nz, nz1, ML_nil, encLTFind]) rfl
theorem c15f_pc (l : List TFind) (k : Int) (hpre : l.length ≤ 1073741823) : PCo Try.prog 15 [encLTFind l, dI k] (Tab.of []) (encLI (pick (placeIs k) nFind l)) (Tab.of []) := by
  refine pco_of_run [] (E := ⟨[c74, c79, c80], [], []⟩) (m := false) (base := 0) (Env.ok_cons c74_ok (Env.ok_cons c79_ok (Env.ok_cons c80_ok Env.ok_nil))) G_ok mix 300 6 Try.func15 (by kernel_rfl) rfl (by kernel_rfl) (by kernel_rfl) rfl ?_
  simp [Try.f15]
  exact hpre
theorem c15f_ok : c15f.ok Try.prog := mkCon_ok fun ⟨l, k⟩ hpre => c15f_pc l k hpre
/-- loop.example/g03007/impl.FoundIn -/
noncomputable def c17f : Con := mkCon 17 false (α := (List TFind) × TSpan) (fun x => (fun (l : List TFind) (s : TSpan) => [encLTFind l, encTSpan s]) x.1 x.2) (fun _ => []) (fun x => (fun (l : List TFind) (s : TSpan) => l.length ≤ 1073741823) x.1 x.2) (fun x => (fun (l : List TFind) (s : TSpan) => (encLI (pick (heldIn s) nFind l) : D)) x.1 x.2) (fun x => (fun (l : List TFind) (s : TSpan) => []) x.1 x.2)
@[simp] theorem c17f_f : c17f.f = 17 := rfl
@[simp] theorem c17f_own : c17f.own = false := rfl
theorem c17f_inj : ∀ u_ v_ : (List TFind) × TSpan, ((fun x => (fun (l : List TFind) (s : TSpan) => [encLTFind l, encTSpan s]) x.1 x.2) u_).map nz = ((fun x => (fun (l : List TFind) (s : TSpan) => [encLTFind l, encTSpan s]) x.1 x.2) v_).map nz → u_ = v_ := by
  intro u_ v_ h
  obtain ⟨l, ⟨s_From, s_Until⟩⟩ := u_
  obtain ⟨l', ⟨s_From', s_Until'⟩⟩ := v_
  simp [nz_lit, nz1_lit, nz_agg, nz_sl, nz1_sl, encLTFind, encTSpan] at h
  first | (simp [h]; done) | (obtain ⟨⟩ := h; simp_all; done) | simp_all
@[simp] theorem c17f_fn (l : List TFind) (s_From : Int) (s_Until : Int) : c17f.fn [.sl false 8 yTFind (ML encTFind l), .agg [.lit (.int .i64 s_From), .lit (.int .i64 s_Until)]] [] = some ((fun (l : List TFind) (s : TSpan) => l.length ≤ 1073741823) l ⟨s_From, s_Until⟩, (fun (l : List TFind) (s : TSpan) => (encLI (pick (heldIn s) nFind l) : D)) l ⟨s_From, s_Until⟩, (fun (l : List TFind) (s : TSpan) => []) l ⟨s_From, s_Until⟩) :=
  mkCon_fn (fun x y h _ => c17f_inj x y h) ((l, ⟨s_From, s_Until⟩) : (List TFind) × TSpan) (by simp [nz, nz1, ML_nil, encLTFind, encTSpan]) rfl
@[simp] theorem c17f_fn1 (s_l : Nat) (z_l : D) (s_From : Int) (s_Until : Int) : c17f.fn [.sl false s_l z_l [], .agg [.lit (.int .i64 s_From), .lit (.int .i64 s_Until)]] [] = some ((fun (l : List TFind) (s : TSpan) => l.length ≤ 1073741823) [] ⟨s_From, s_Until⟩, (fun (l : List TFind) (s : TSpan) => (encLI (pick (heldIn s) nFind l) : D)) [] ⟨s_From, s_Until⟩, (fun (l : List TFind) (s : TSpan) => []) [] ⟨s_From, s_Until⟩) :=
  mkCon_fn (fun x y h _ => c17f_inj x y h) (([], ⟨s_From, s_Until⟩) : (List TFind) × TSpan) (by simp [nz, nz1, ML_nil, encLTFind, encTSpan]) rfl
theorem c17f_pc (l : List TFind) (s : TSpan) (hpre : l.length ≤ 1073741823) : PCo Try.prog 17 [encLTFind l, encTSpan s] (Tab.of []) (encLI (pick (heldIn s) nFind l)) (Tab.of []) := by
  refine pco_of_run [] (E := ⟨[c74, c79, c82], [], []⟩) (m := false) (base := 0) (Env.ok_cons c74_ok (Env.ok_cons c79_ok (Env.ok_cons c82_ok Env.ok_nil))) G_ok mix 300 6 Try.func17 (by kernel_rfl) rfl (by kernel_rfl) (by kernel_rfl) rfl ?_
  simp [Try.f17]
  exact hpre
theorem c17f_ok : c17f.ok Try.prog := mkCon_ok fun ⟨l, s⟩ hpre => c17f_pc l s hpre
/-- loop.example/g03007/laws.FnFinds -/
theorem law3 (l : List Int) (wl : wfLU l) : PCo Try.prog 3 [encLU l] (Tab.of []) (dB true) (Tab.of []) := by
  refine pco_of_run [5] (E := ⟨[c9, c10, c11f, c12, c13, c14, c15f, c16, c17f, c18, c19, c20], [], []⟩) (m := false) (base := 0) (Env.ok_cons c9_ok (Env.ok_cons c10_ok (Env.ok_cons c11f_ok (Env.ok_cons c12_ok (Env.ok_cons c13_ok (Env.ok_cons c14_ok (Env.ok_cons c15f_ok (Env.ok_cons c16_ok (Env.ok_cons c17f_ok (Env.ok_cons c18_ok (Env.ok_cons c19_ok (Env.ok_cons c20_ok Env.ok_nil)))))))))))) G_ok mix 400 6 Try.func3 (by kernel_rfl) rfl (by kernel_rfl) (by kernel_rfl) rfl ?_
  have hl : l.length ≤ maxLen := wl.1
  by_cases hbig : 1048576 < l.length
  · simp [Try.f3, hbig]
  · have hp : l.length ≤ 2097152 := by omega
    have b1 := v10_ok l hp
    have b2 := v16_ok l hp
    have b3 := v19_ok l hp
    have h1 := c10_fn l
    have h2 := c16_fn l
    have h3 := c19_fn l
    generalize v10 l = X at *
    generalize v16 l = Y at *
    generalize v19 l = Z at *
    obtain ⟨L, f⟩ := X
    obtain ⟨a, s⟩ := Y
    obtain ⟨b, k⟩ := Z
    simp only at b1 b2 b3 h1 h2 h3
    have hlen := insF_len L f
    have hpk := pick_len (want := placeIs f.Place) (f := nFind) (insF L f)
    have hpk2 := pick_len (want := placeIs k) (f := nFind) b
    have hpk3 := pick_len (want := heldIn s) (f := nFind) a
    have ca : (pick (heldIn s) nFind a).length = a.countP (heldIn s) := pick_count a
    have q1 : mAreFinds a = false ∨ mAscL (pick (heldIn s) nFind a) = true := by
      cases h : mAreFinds a with
      | false => exact .inl rfl
      | true => exact .inr (finds_asc h)
    have q2 : mAreFinds b = false ∨ mAscL (pick (placeIs k) nFind b) = true := by
      cases h : mAreFinds b with
      | false => exact .inl rfl
      | true => exact .inr (finds_asc h)
    cases hk : mAreFinds (insF L f) with
    | true =>
      obtain ⟨g1, g2, g3⟩ := ins_find hk
      have g4 := ins_has (l := L) (x := f)
      have g5 := mPutFind_yes hk
      simp [Try.f3, hbig, h1, h2, h3, -c10_fn, -c16_fn, -c19_fn, hk, g5, g1, g3, g4]
      have hz : (((insF L f).length : Nat) : Int) = (L.length : Int) + 1 := by omega
      refine ⟨hp, by omega, ⟨by omega, ⟨by omega, by omega⟩, fun _ => by omega, fun _ => by omega, fun _ => by omega, fun _ => by omega⟩, hz, fun _ => ⟨hp, by omega, ?_⟩⟩
      refine loop_inv (fun p : Nat => p ≤ a.length) (fun p => [(0, encLU l), (7, encLTFind a), (8, .ptr (0, 1) 0), (9, encLI (pick (heldIn s) nFind a)), (10, dI ((a.take p).countP (heldIn s))), (11, dI p)]) (fun _ => [((0, 1), .box (encTSpan s))]) 2 (fun p => a.length - p) 0 400 (by simp) (by simp) (by simp) ?_
      intro p hpa
      have hcs : (a.take p).countP (heldIn s) ≤ p := Nat.le_trans List.countP_le_length (by simp; omega)
      simp [hbig, h3, -c19_fn]
      have hca := cnt_at (want := heldIn s) (l := a) (p := p) (d := default)
      have hd : heldIn s (a[p]?.getD default) = mHolds s (a[p]?.getD default).At := rfl
      refine ⟨fun hlt => ⟨hlt, fun hh => ?_, fun hh => ?_⟩, fun hge => ?_⟩
      · have hc1 := hca hlt
        rw [hd, hh] at hc1
        repeat' (with_reducible first | apply And.intro | intro _)
        all_goals try (first | omega | assumption | (simp; done) | (simp only [below_eq, Int.reduceLT]; omega))
        exact Again.mk (p + 1) (by omega) (by simp [hc1]) (by first | omega | (simp; omega))
      · have hc1 := hca hlt
        rw [hd, hh] at hc1
        repeat' (with_reducible first | apply And.intro | intro _)
        all_goals try (first | omega | assumption | (simp; done) | (simp only [below_eq, Int.reduceLT]; omega))
        exact Again.mk (p + 1) (by omega) (by simp [hc1]) (by first | omega | (simp; omega))
      · have e : p = a.length := by omega
        subst e
        simp only [List.take_length]
        repeat' (with_reducible first | apply And.intro | intro _)
        all_goals try (first | omega | assumption | (simp; done) | (simp only [below_eq, Int.reduceLT]; omega))
        all_goals first | exact q1 | exact q2 | omega | trace_state
    | false =>
      have g5 := mPutFind_no hk
      simp [Try.f3, hbig, h1, h2, h3, -c10_fn, -c16_fn, -c19_fn, hk, g5]
      repeat' (with_reducible first | apply And.intro | intro _)
      all_goals try (first | omega | assumption | (simp; done) | (simp only [below_eq, Int.reduceLT]; omega))
      refine loop_inv (fun p : Nat => p ≤ a.length) (fun p => [(0, encLU l), (7, encLTFind a), (8, .ptr (0, 1) 0), (9, encLI (pick (heldIn s) nFind a)), (10, dI ((a.take p).countP (heldIn s))), (11, dI p)]) (fun _ => [((0, 1), .box (encTSpan s))]) 2 (fun p => a.length - p) 0 400 (by simp) (by simp) (by simp) ?_
      intro p hpa
      have hcs : (a.take p).countP (heldIn s) ≤ p := Nat.le_trans List.countP_le_length (by simp; omega)
      simp [hbig, h3, -c19_fn]
      have hca := cnt_at (want := heldIn s) (l := a) (p := p) (d := default)
      have hd : heldIn s (a[p]?.getD default) = mHolds s (a[p]?.getD default).At := rfl
      refine ⟨fun hlt => ⟨hlt, fun hh => ?_, fun hh => ?_⟩, fun hge => ?_⟩
      · have hc1 := hca hlt
        rw [hd, hh] at hc1
        repeat' (with_reducible first | apply And.intro | intro _)
        all_goals try (first | omega | assumption | (simp; done) | (simp only [below_eq, Int.reduceLT]; omega))
        exact Again.mk (p + 1) (by omega) (by simp [hc1]) (by first | omega | (simp; omega))
      · have hc1 := hca hlt
        rw [hd, hh] at hc1
        repeat' (with_reducible first | apply And.intro | intro _)
        all_goals try (first | omega | assumption | (simp; done) | (simp only [below_eq, Int.reduceLT]; omega))
        exact Again.mk (p + 1) (by omega) (by simp [hc1]) (by first | omega | (simp; omega))
      · have e : p = a.length := by omega
        subst e
        simp only [List.take_length]
        repeat' (with_reducible first | apply And.intro | intro _)
        all_goals try (first | omega | assumption | (simp; done) | (simp only [below_eq, Int.reduceLT]; omega))
        all_goals first | exact q1 | exact q2 | omega | trace_state
theorem law3_pc (D0 : D) (h0 : Sh G 9 22 D0) : PC Try.prog 3 [D0] (dB true) [] := by
  obtain ⟨l, rfl, wl⟩ := sh22 (n := 7) h0
  exact law3 l wl

end Go.Proofs.Ytpnfkjbnhholfaa
