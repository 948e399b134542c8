/- Contracts of the functions that the laws run. -/
import Derived.Test.Ytnkggfhgmdbfpaach06
import Derived.Test.YtnkggfhgmdbfpaaEngB
namespace Go.Proofs.Ytnkggfhgmdbfpaa
open Go Go.Eng
set_option linter.unusedSimpArgs false
set_option linter.unusedVariables false
set_option maxRecDepth 10000
set_option maxHeartbeats 1000000
def bN (l : List TFind) : Nat → Nat
  | 0 => 0
  | p + 1 => if p = 0 then 0 else if (l[p]?.getD default).At < (l[bN l p]?.getD default).At then p else bN l p
theorem bN_lt (l : List TFind) : ∀ p, 0 < p → bN l p < p
  | 0, h => by omega
  | p + 1, _ => by
    simp only [bN]
    split
    · omega
    · rename_i h
      have := bN_lt l p (by omega)
      split <;> omega
def mOld (l : List TFind) : Int := if l = [] then 0 else (l[bN l l.length]?.getD default).Thing.Id
/-- cmp.Compare[int] -/
noncomputable def c187 : Con := mkCon 187 false (α := Int × Int) (fun x => (fun (a : Int) (b : Int) => [dI a, dI b]) x.1 x.2) (fun _ => []) (fun x => (fun (a : Int) (b : Int) => True) x.1 x.2) (fun x => (fun (a : Int) (b : Int) => (dI (if a < b then -1 else if b < a then 1 else 0) : D)) x.1 x.2) (fun x => (fun (a : Int) (b : Int) => []) x.1 x.2)
@[simp] theorem c187_f : c187.f = 187 := rfl
@[simp] theorem c187_own : c187.own = false := rfl
theorem c187_inj : ∀ u_ v_ : Int × Int, ((fun x => (fun (a : Int) (b : Int) => [dI a, dI b]) x.1 x.2) u_).map nz = ((fun x => (fun (a : Int) (b : Int) => [dI a, dI b]) x.1 x.2) v_).map nz → u_ = v_ := by
  intro u_ v_ h
  obtain ⟨a, b⟩ := u_
  obtain ⟨a', b'⟩ := v_
  simp [nz_lit, nz1_lit, nz_agg, nz_sl, nz1_sl] at h
  first | (simp [h]; done) | (obtain ⟨⟩ := h; simp_all; done) | simp_all
@[simp] theorem c187_fn (a : Int) (b : Int) : c187.fn [.lit (.int .i64 a), .lit (.int .i64 b)] [] = some ((fun (a : Int) (b : Int) => True) a b, (fun (a : Int) (b : Int) => (dI (if a < b then -1 else if b < a then 1 else 0) : D)) a b, (fun (a : Int) (b : Int) => []) a b) :=
  mkCon_fn (fun x y h _ => c187_inj x y h) ((a, b) : Int × Int) (by simp [nz, nz1, ML_nil]) rfl
theorem c187_pc (a : Int) (b : Int) : PCo Try.prog 187 [dI a, dI b] (Tab.of []) (dI (if a < b then -1 else if b < a then 1 else 0)) (Tab.of []) := by
  refine pco_of_run [] (E := ⟨[c242], []⟩) (m := false) (base := 0) (Env.ok_cons c242_ok Env.ok_nil) G_ok mix 300 6 Try.func187 (by kernel_rfl) rfl (by kernel_rfl) (by kernel_rfl) rfl ?_
  simp [Try.f187]
  repeat' (first | omega | refine And.intro ?_ ?_ | intro _)
  all_goals first | rfl | (repeat' split) <;> first | rfl | omega
theorem c187_ok : c187.ok Try.prog := mkCon_ok fun ⟨a, b⟩ hpre => c187_pc a b
/-- loop.example/g03007/impl.OldestFind$1 -/
noncomputable def c186 : Con := mkCon 186 false (α := TFind × TFind) (fun x => (fun (a : TFind) (b : TFind) => [encTFind a, encTFind b]) x.1 x.2) (fun _ => []) (fun x => (fun (a : TFind) (b : TFind) => True) x.1 x.2) (fun x => (fun (a : TFind) (b : TFind) => (dI (if a.At < b.At then -1 else if b.At < a.At then 1 else 0) : D)) x.1 x.2) (fun x => (fun (a : TFind) (b : TFind) => []) x.1 x.2)
@[simp] theorem c186_f : c186.f = 186 := rfl
@[simp] theorem c186_own : c186.own = false := rfl
theorem c186_inj : ∀ u_ v_ : TFind × TFind, ((fun x => (fun (a : TFind) (b : TFind) => [encTFind a, encTFind b]) x.1 x.2) u_).map nz = ((fun x => (fun (a : TFind) (b : TFind) => [encTFind a, encTFind b]) x.1 x.2) v_).map nz → u_ = v_ := by
  intro u_ v_ h
  obtain ⟨⟨⟨a_Thing_Id, a_Thing_Kind, a_Thing_Colour, a_Thing_Size, a_Thing_Worth⟩, a_Place, a_At, a_Finder⟩, ⟨⟨b_Thing_Id, b_Thing_Kind, b_Thing_Colour, b_Thing_Size, b_Thing_Worth⟩, b_Place, b_At, b_Finder⟩⟩ := u_
  obtain ⟨⟨⟨a_Thing_Id', a_Thing_Kind', a_Thing_Colour', a_Thing_Size', a_Thing_Worth'⟩, a_Place', a_At', a_Finder'⟩, ⟨⟨b_Thing_Id', b_Thing_Kind', b_Thing_Colour', b_Thing_Size', b_Thing_Worth'⟩, b_Place', b_At', b_Finder'⟩⟩ := v_
  simp [nz_lit, nz1_lit, nz_agg, nz_sl, nz1_sl, encTFind, encTThing] at h
  first | (simp [h]; done) | (obtain ⟨⟩ := h; simp_all; done) | simp_all
@[simp] theorem c186_fn (a_Thing_Id : Int) (a_Thing_Kind : Int) (a_Thing_Colour : Int) (a_Thing_Size : Int) (a_Thing_Worth : Int) (a_Place : Int) (a_At : Int) (a_Finder : Int) (b_Thing_Id : Int) (b_Thing_Kind : Int) (b_Thing_Colour : Int) (b_Thing_Size : Int) (b_Thing_Worth : Int) (b_Place : Int) (b_At : Int) (b_Finder : Int) : c186.fn [.agg [.lit (.int .i64 a_Thing_Id), .lit (.int .i64 a_Thing_Kind), .lit (.int .i64 a_Thing_Colour), .lit (.int .i64 a_Thing_Size), .lit (.int .i64 a_Thing_Worth), .lit (.int .i64 a_Place), .lit (.int .i64 a_At), .lit (.int .i64 a_Finder)], .agg [.lit (.int .i64 b_Thing_Id), .lit (.int .i64 b_Thing_Kind), .lit (.int .i64 b_Thing_Colour), .lit (.int .i64 b_Thing_Size), .lit (.int .i64 b_Thing_Worth), .lit (.int .i64 b_Place), .lit (.int .i64 b_At), .lit (.int .i64 b_Finder)]] [] = some ((fun (a : TFind) (b : TFind) => True) ⟨⟨a_Thing_Id, a_Thing_Kind, a_Thing_Colour, a_Thing_Size, a_Thing_Worth⟩, a_Place, a_At, a_Finder⟩ ⟨⟨b_Thing_Id, b_Thing_Kind, b_Thing_Colour, b_Thing_Size, b_Thing_Worth⟩, b_Place, b_At, b_Finder⟩, (fun (a : TFind) (b : TFind) => (dI (if a.At < b.At then -1 else if b.At < a.At then 1 else 0) : D)) ⟨⟨a_Thing_Id, a_Thing_Kind, a_Thing_Colour, a_Thing_Size, a_Thing_Worth⟩, a_Place, a_At, a_Finder⟩ ⟨⟨b_Thing_Id, b_Thing_Kind, b_Thing_Colour, b_Thing_Size, b_Thing_Worth⟩, b_Place, b_At, b_Finder⟩, (fun (a : TFind) (b : TFind) => []) ⟨⟨a_Thing_Id, a_Thing_Kind, a_Thing_Colour, a_Thing_Size, a_Thing_Worth⟩, a_Place, a_At, a_Finder⟩ ⟨⟨b_Thing_Id, b_Thing_Kind, b_Thing_Colour, b_Thing_Size, b_Thing_Worth⟩, b_Place, b_At, b_Finder⟩) :=
  mkCon_fn (fun x y h _ => c186_inj x y h) ((⟨⟨a_Thing_Id, a_Thing_Kind, a_Thing_Colour, a_Thing_Size, a_Thing_Worth⟩, a_Place, a_At, a_Finder⟩, ⟨⟨b_Thing_Id, b_Thing_Kind, b_Thing_Colour, b_Thing_Size, b_Thing_Worth⟩, b_Place, b_At, b_Finder⟩) : TFind × TFind) (by simp [nz, nz1, ML_nil, encTFind, encTThing]) rfl
theorem c186_pc (a : TFind) (b : TFind) : PCo Try.prog 186 [encTFind a, encTFind b] (Tab.of []) (dI (if a.At < b.At then -1 else if b.At < a.At then 1 else 0)) (Tab.of []) := by
  obtain ⟨⟨a_Thing_Id, a_Thing_Kind, a_Thing_Colour, a_Thing_Size, a_Thing_Worth⟩, a_Place, a_At, a_Finder⟩ := a
  obtain ⟨⟨b_Thing_Id, b_Thing_Kind, b_Thing_Colour, b_Thing_Size, b_Thing_Worth⟩, b_Place, b_At, b_Finder⟩ := b
  refine pco_of_run [] (E := ⟨[c187], []⟩) (m := false) (base := 0) (Env.ok_cons c187_ok Env.ok_nil) G_ok mix 300 6 Try.func186 (by kernel_rfl) rfl (by kernel_rfl) (by kernel_rfl) rfl ?_
  simp [Try.f186]
  first | done | rfl
theorem c186_ok : c186.ok Try.prog := mkCon_ok fun ⟨a, b⟩ hpre => c186_pc a b
/-- slices.MinFunc[[]loop.example/g03007/impl.Fin -/
noncomputable def c185 : Con := mkCon 185 false (α := (List TFind)) (fun x => (fun (l : List TFind) => ([encLTFind l, .fn (.func 186) [] []] : List D)) x) (fun x => (fun (l : List TFind) => ([] : List (Nm × OO))) x) (fun x => (fun (l : List TFind) => 0 < l.length ∧ l.length ≤ 1073741823) x) (fun x => (fun (l : List TFind) => (encTFind (l[bN l l.length]?.getD default) : D)) x) (fun x => (fun (l : List TFind) => ([] : List (Nm × OO))) x)
@[simp] theorem c185_f : c185.f = 185 := rfl
@[simp] theorem c185_own : c185.own = false := rfl
theorem c185_inj : ∀ u_ v_ : (List TFind), ((fun x => (fun (l : List TFind) => ([encLTFind l, .fn (.func 186) [] []] : List D)) x) u_).map nz = ((fun x => (fun (l : List TFind) => ([encLTFind l, .fn (.func 186) [] []] : List D)) x) v_).map nz → (fun x => (fun (l : List TFind) => ([] : List (Nm × OO))) x) u_ = (fun x => (fun (l : List TFind) => ([] : List (Nm × OO))) x) v_ → u_ = v_ := by
  intro u_ v_ h h2_
  obtain l := u_
  obtain l' := v_
  simp [nz_lit, nz1_lit, nz_agg, nz_sl, nz1_sl, nz_sx, nz_el, nz1_el, nz_own, nz1_own, nz_ptr, nz_fn, nz_iface] at h h2_
  first | (simp [h, h2_]; done) | (obtain ⟨h3_, h4_⟩ := List.append_inj h2_ h.1; simp_all; done) | simp_all | grind
@[simp] theorem c185_fn (l : List TFind) : c185.fn ([(.sl false 8 yTFind (ML encTFind l)), .fn (.func 186) [] []]) ([]) = some (0 < l.length ∧ l.length ≤ 1073741823, encTFind (l[bN l l.length]?.getD default), []) :=
  mkCon_fn c185_inj (l : (List TFind)) rfl rfl
theorem c185_pc (l : List TFind) (hpre : 0 < l.length ∧ l.length ≤ 1073741823) : PCo Try.prog 185 ([encLTFind l, .fn (.func 186) [] []]) (Tab.of ([])) (encTFind (l[bN l l.length]?.getD default)) (Tab.of ([])) := by
  refine pco_of_run [] (E := ⟨[c186], []⟩) (m := false) (base := 0) (Env.ok_cons c186_ok Env.ok_nil) G_ok mix 300 6 Try.func185 (by kernel_rfl) rfl (by kernel_rfl) (by kernel_rfl) rfl ?_
  simp [Try.f185]
  obtain ⟨hp1, hp2⟩ := hpre
  refine ⟨by omega, fun _ => ⟨by omega, ?_⟩⟩
  refine loop_inv (fun p : Nat => 0 < p ∧ p ≤ l.length) (fun p => [(0, encLTFind l), (1, .fn (.func 186) [] []), (4, .ptr (0, 1) 0), (5, .ptr (1, 1) 0), (6, dI p)]) (fun p => [((0, 1), .box (encTFind default)), ((1, 1), .box (encTFind (l[bN l p]?.getD default)))]) 2 (fun p => l.length - p) 1 400 (by simp) (by simp; omega) (by simp [bN]; exact ⟨rfl, rfl, rfl, rfl, rfl, rfl, rfl, rfl⟩) ?_
  intro p ⟨hp0, hp⟩
  have hs : bN l (p + 1) = if p = 0 then 0 else if (l[p]?.getD default).At < (l[bN l p]?.getD default).At then p else bN l p := rfl
  rw [if_neg (by omega)] at hs
  simp
  refine ⟨fun hlt => ?_, fun hge => ?_⟩
  · by_cases hc : (l[p]?.getD default).At < (l[bN l p]?.getD default).At
    · rw [if_pos hc] at hs
      simp [hc]
      repeat' (first | omega | refine And.intro ?_ ?_ | intro _)
      exact Again.mk (p + 1) ⟨by omega, by omega⟩ (by simp [hs]) (by first | omega | (simp; omega))
    · rw [if_neg hc] at hs
      have hc2 : ¬ (if (l[bN l p]?.getD default).At < (l[p]?.getD default).At then (1 : Int) else 0) < 0 := by split <;> omega
      simp [hc, hc2]
      repeat' (first | omega | refine And.intro ?_ ?_ | intro _)
      all_goals first | omega | exact Again.mk (p + 1) ⟨by omega, by omega⟩ (by simp [hs]) (by first | omega | (simp; omega)) | trace_state
  · have : p = l.length := by omega
    subst this; simp
theorem c185_ok : c185.ok Try.prog := mkCon_ok fun l hpre => c185_pc l hpre
/-- loop.example/g03007/impl.OldestFind -/
noncomputable def c100 : Con := mkCon 100 false (α := (List TFind)) (fun x => (fun (l : List TFind) => [encLTFind l]) x) (fun _ => []) (fun x => (fun (l : List TFind) => l.length ≤ 1073741823) x) (fun x => (fun (l : List TFind) => (dI (mOld l) : D)) x) (fun x => (fun (l : List TFind) => []) x)
@[simp] theorem c100_f : c100.f = 100 := rfl
@[simp] theorem c100_own : c100.own = false := rfl
theorem c100_inj : ∀ u_ v_ : (List TFind), ((fun x => (fun (l : List TFind) => [encLTFind l]) x) u_).map nz = ((fun x => (fun (l : List TFind) => [encLTFind l]) x) v_).map nz → u_ = v_ := by
  intro u_ v_ h
  obtain l := u_
  obtain l' := v_
  simp [nz_lit, nz1_lit, nz_agg, nz_sl, nz1_sl, encLTFind] at h
  first | (simp [h]; done) | (obtain ⟨⟩ := h; simp_all; done) | simp_all
@[simp] theorem c100_fn (l : List TFind) : c100.fn [.sl false 8 yTFind (ML encTFind l)] [] = some ((fun (l : List TFind) => l.length ≤ 1073741823) l, (fun (l : List TFind) => (dI (mOld l) : D)) l, (fun (l : List TFind) => []) l) :=
  mkCon_fn (fun x y h _ => c100_inj x y h) (l : (List TFind)) (by simp [nz, nz1, ML_nil, encLTFind]) rfl
@[simp] theorem c100_fn1 (s_l : Nat) (z_l : D) : c100.fn [.sl false s_l z_l []] [] = some ((fun (l : List TFind) => l.length ≤ 1073741823) [], (fun (l : List TFind) => (dI (mOld l) : D)) [], (fun (l : List TFind) => []) []) :=
  mkCon_fn (fun x y h _ => c100_inj x y h) ([] : (List TFind)) (by simp [nz, nz1, ML_nil, encLTFind]) rfl
theorem c100_pc (l : List TFind) (hpre : l.length ≤ 1073741823) : PCo Try.prog 100 [encLTFind l] (Tab.of []) (dI (mOld l)) (Tab.of []) := by
  refine pco_of_run [] (E := ⟨[c185, c186, c186], []⟩) (m := false) (base := 0) (Env.ok_cons c185_ok (Env.ok_cons c186_ok (Env.ok_cons c186_ok Env.ok_nil))) G_ok mix 300 6 Try.func100 (by kernel_rfl) rfl (by kernel_rfl) (by kernel_rfl) rfl ?_
  simp [Try.f100]
  exact ⟨fun h => by simp [mOld, h], fun h => ⟨⟨List.length_pos_iff.2 h, hpre⟩, by rw [mOld, if_neg h]⟩⟩
theorem c100_ok : c100.ok Try.prog := mkCon_ok fun l hpre => c100_pc l hpre
/-- loop.example/g03007/spec.OldestFind -/
noncomputable def c99 : Con := mkCon 99 false (α := (List TFind)) (fun x => (fun (l : List TFind) => [encLTFind l]) x) (fun _ => []) (fun x => (fun (l : List TFind) => l.length ≤ 1073741823) x) (fun x => (fun (l : List TFind) => (dI (mOld l) : D)) x) (fun x => (fun (l : List TFind) => []) x)
@[simp] theorem c99_f : c99.f = 99 := rfl
@[simp] theorem c99_own : c99.own = false := rfl
theorem c99_inj : ∀ u_ v_ : (List TFind), ((fun x => (fun (l : List TFind) => [encLTFind l]) x) u_).map nz = ((fun x => (fun (l : List TFind) => [encLTFind l]) x) v_).map nz → u_ = v_ := by
  intro u_ v_ h
  obtain l := u_
  obtain l' := v_
  simp [nz_lit, nz1_lit, nz_agg, nz_sl, nz1_sl, encLTFind] at h
  first | (simp [h]; done) | (obtain ⟨⟩ := h; simp_all; done) | simp_all
@[simp] theorem c99_fn (l : List TFind) : c99.fn [.sl false 8 yTFind (ML encTFind l)] [] = some ((fun (l : List TFind) => l.length ≤ 1073741823) l, (fun (l : List TFind) => (dI (mOld l) : D)) l, (fun (l : List TFind) => []) l) :=
  mkCon_fn (fun x y h _ => c99_inj x y h) (l : (List TFind)) (by simp [nz, nz1, ML_nil, encLTFind]) rfl
@[simp] theorem c99_fn1 (s_l : Nat) (z_l : D) : c99.fn [.sl false s_l z_l []] [] = some ((fun (l : List TFind) => l.length ≤ 1073741823) [], (fun (l : List TFind) => (dI (mOld l) : D)) [], (fun (l : List TFind) => []) []) :=
  mkCon_fn (fun x y h _ => c99_inj x y h) ([] : (List TFind)) (by simp [nz, nz1, ML_nil, encLTFind]) rfl
theorem c99_pc (l : List TFind) (hpre : l.length ≤ 1073741823) : PCo Try.prog 99 [encLTFind l] (Tab.of []) (dI (mOld l)) (Tab.of []) := by
  refine pco_of_run [] (E := ⟨[], []⟩) (m := false) (base := 0) Env.ok_nil G_ok mix 300 6 Try.func99 (by kernel_rfl) rfl (by kernel_rfl) (by kernel_rfl) rfl ?_
  simp [Try.f99]
  refine loop_inv (fun p : Nat => p ≤ l.length) (fun p => [(0, encLTFind l), (3, dI (if p = 0 then -1 else (bN l p : Int))), (4, dI p)]) (fun _ => []) 1 (fun p => l.length - p) 0 400 (by simp) (by simp) (by simp) ?_
  intro p hp
  have hb := bN_lt l p
  have hs : bN l (p + 1) = if p = 0 then 0 else if (l[p]?.getD default).At < (l[bN l p]?.getD default).At then p else bN l p := rfl
  by_cases hp0 : p = 0
  · subst hp0
    simp
    refine ⟨fun hlt => Again.mk 1 (by omega) (by simp [bN]) (by first | omega | (simp; omega)), fun hge => ?_⟩
    have : l = [] := by first | exact hge | exact List.eq_nil_of_length_eq_zero (by omega)
    simp [mOld, this]
  · simp only [hp0, if_false] at hs ⊢
    have hb' := hb (by omega)
    simp
    refine ⟨fun hlt => ?_, fun hge => ?_⟩
    · by_cases hc : (l[p]?.getD default).At < (l[bN l p]?.getD default).At
      · rw [if_pos hc] at hs
        simp [hc]
        repeat' (first | omega | refine And.intro ?_ ?_ | intro _)
        all_goals first | omega | exact Again.mk (p + 1) (by omega) (by simp [hs]) (by first | omega | (simp; omega)) | trace_state
      · rw [if_neg hc] at hs
        simp [hc]
        repeat' (first | omega | refine And.intro ?_ ?_ | intro _)
        all_goals first | omega | exact Again.mk (p + 1) (by omega) (by simp [hs]) (by first | omega | (simp; omega)) | trace_state
    · have hl : p = l.length := by omega
      have hne : ¬ l = [] := fun e => by rw [e] at hl; simp at hl; omega
      have hm : mOld l = (l[bN l l.length]?.getD default).Thing.Id := by rw [mOld, if_neg hne]
      subst hl
      rw [hm]
      repeat' (first | omega | refine And.intro ?_ ?_ | intro _)
      all_goals first | omega | simp | trace_state
theorem c99_ok : c99.ok Try.prog := mkCon_ok fun l hpre => c99_pc l hpre
/-- loop.example/g03007/laws.FnExactOldestFind -/
theorem law22 (l : List TFind) (wl : wfLTFind l) : PCo Try.prog 22 [encLTFind l] (Tab.of []) (dB true) (Tab.of []) := by
  refine pco_of_run [] (E := ⟨[c45, c48, c51, c99, c100], []⟩) (m := false) (base := 0) (Env.ok_cons c45_ok (Env.ok_cons c48_ok (Env.ok_cons c51_ok (Env.ok_cons c99_ok (Env.ok_cons c100_ok Env.ok_nil))))) G_ok mix 400 6 Try.func22 (by kernel_rfl) rfl (by kernel_rfl) (by kernel_rfl) rfl ?_
  simp (config := {maxSteps := 3000000}) [Try.f22]
  have h_l : l.length ≤ maxLen := wl.1
  repeat' (first | omega | assumption | refine And.intro ?_ ?_ | intro _)
  all_goals first | omega | grind | (split at * <;> omega)
theorem law22_pc (D0 : D) (h0 : Sh G 9 46 D0) : PC Try.prog 22 [D0] (dB true) [] := by
  obtain ⟨l, rfl, wl⟩ := sh46 (n := 5) h0
  exact law22 l wl

end Go.Proofs.Ytnkggfhgmdbfpaa
