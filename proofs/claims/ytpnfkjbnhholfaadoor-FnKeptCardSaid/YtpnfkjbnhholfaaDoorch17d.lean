/- Contracts of the functions that the laws run. -/
import Derived.Test.YtpnfkjbnhholfaaDoorch17
import Derived.Test.YtpnfkjbnhholfaaDoorEngB
namespace Go.Proofs.YtpnfkjbnhholfaaDoor
open Go Go.Eng
set_option linter.unusedSimpArgs false
set_option linter.unusedVariables false
set_option maxRecDepth 10000
set_option maxHeartbeats 1000000
/-- slices.Clone[[]loop.example/g03007/impl.Fin -/
noncomputable def c33 : Con := mkCon 33 false (α := (List TFind)) (fun x => (fun (l : List TFind) => [encLTFind l]) x) (fun _ => []) (fun x => (fun (l : List TFind) => l.length ≤ 1073741824) x) (fun x => (fun (l : List TFind) => (.own (0, 1) 8 0 l.length : D)) x) (fun x => (fun (l : List TFind) => [((0, 1), .arr false 8 yTFind (ML encTFind l))]) x)
@[simp] theorem c33_f : c33.f = 33 := rfl
@[simp] theorem c33_own : c33.own = false := rfl
theorem c33_inj : ∀ u_ v_ : (List TFind), ((fun x => (fun (l : List TFind) => [encLTFind l]) x) u_).map nz = ((fun x => (fun (l : List TFind) => [encLTFind l]) x) v_).map nz → u_ = v_ := by
  intro u_ v_ h
  obtain l := u_
  obtain l' := v_
  simp [nz_lit, nz1_lit, nz_agg, nz_sl, nz1_sl, encLTFind] at h
  first | (simp [h]; done) | (obtain ⟨⟩ := h; simp_all; done) | simp_all
@[simp] theorem c33_fn (l : List TFind) : c33.fn [.sl false 8 yTFind (ML encTFind l)] [] = some ((fun (l : List TFind) => l.length ≤ 1073741824) l, (fun (l : List TFind) => (.own (0, 1) 8 0 l.length : D)) l, (fun (l : List TFind) => [((0, 1), .arr false 8 yTFind (ML encTFind l))]) l) :=
  mkCon_fn (fun x y h _ => c33_inj x y h) (l : (List TFind)) (by simp [nz, nz1, ML_nil, encLTFind]) rfl
@[simp] theorem c33_fn1 (s_l : Nat) (z_l : D) : c33.fn [.sl false s_l z_l []] [] = some ((fun (l : List TFind) => l.length ≤ 1073741824) [], (fun (l : List TFind) => (.own (0, 1) 8 0 l.length : D)) [], (fun (l : List TFind) => [((0, 1), .arr false 8 yTFind (ML encTFind l))]) []) :=
  mkCon_fn (fun x y h _ => c33_inj x y h) ([] : (List TFind)) (by simp [nz, nz1, ML_nil, encLTFind]) rfl
theorem c33_pc (l : List TFind) (hpre : l.length ≤ 1073741824) : PCo Tryd.prog 33 [encLTFind l] (Tab.of []) (.own (0, 1) 8 0 l.length) (Tab.of [((0, 1), .arr false 8 yTFind (ML encTFind l))]) := by
  by_cases hl : l = []
  · subst hl
    show PCo Tryd.prog 33 [.sl false 8 yTFind []] Tab.nil (.own (0, 1) 8 0 0) (Tab.of [((0, 1), .arr false 8 yTFind [])])
    refine pco_slice fun a cap => ?_
    cases a with
    | none =>
      refine pc_ghost (s' := 0) (z' := .any) ?_
      refine pco_of_run [] (tin := []) (E := ⟨[], [], []⟩) (m := false) (base := 0) Env.ok_nil G_ok mix 300 6 Tryd.func33 (by kernel_rfl) rfl (by kernel_rfl) (by kernel_rfl) rfl ?_
      simp [Tryd.f33]
    | some q =>
      refine pco_of_run [] (tin := []) (E := ⟨[], [], []⟩) (m := false) (base := 0) Env.ok_nil G_ok mix 300 6 Tryd.func33 (by kernel_rfl) rfl (by kernel_rfl) (by kernel_rfl) rfl ?_
      simp [Tryd.f33]
  · refine pco_of_run [] (E := ⟨[], [], []⟩) (m := false) (base := 0) Env.ok_nil G_ok mix 300 6 Tryd.func33 (by kernel_rfl) rfl (by kernel_rfl) (by kernel_rfl) rfl ?_
    simp [Tryd.f33, -nilS, nilS_ML hl]
    omega
theorem c33_ok : c33.ok Tryd.prog := mkCon_ok fun l hpre => c33_pc l hpre
def mDueF (now : Int) (l : List TFind) : List TFind := l.filter (mIsDue now)
def zF : TFind := ⟨⟨0, 0, 0, 0, 0⟩, 0, 0, 0⟩
def rowF (now : Int) (l : List TFind) (p : Nat) : List TFind := mDueF now (l.take p) ++ l.drop (mDueF now (l.take p)).length
theorem dueF_len (now : Int) (l : List TFind) (p : Nat) : (mDueF now (l.take p)).length ≤ p := by
  refine Nat.le_trans (List.length_filter_le _ _) ?_
  simp; omega
theorem dueF_at {now : Int} {l : List TFind} {p : Nat} (h : p < l.length) : mDueF now (l.take (p + 1)) = mDueF now (l.take p) ++ if mIsDue now (l[p]?.getD default) = true then [l[p]?.getD default] else [] := by
  rw [take_at (d := default) h, mDueF, mDueF, List.filter_append]
  congr 1
  by_cases hw : mIsDue now (l[p]?.getD default) = true <;> simp [hw, List.filter]
theorem rowF_len (now : Int) (l : List TFind) {p : Nat} (hp : p ≤ l.length) : (rowF now l p).length = l.length := by
  have := dueF_len now l p
  simp [rowF]; omega
theorem rowF_get {now : Int} {l : List TFind} {p : Nat} (hp : p < l.length) : (rowF now l p)[p]?.getD default = l[p]?.getD default := by
  have := dueF_len now l p
  rw [rowF, List.getElem?_append_right (by omega), List.getElem?_drop]
  congr 2; omega
theorem rowF_set {now : Int} {l : List TFind} {p : Nat} (hp : p < l.length) (hw : mIsDue now (l[p]?.getD default) = true) : (rowF now l p).set (mDueF now (l.take p)).length (l[p]?.getD default) = rowF now l (p + 1) := by
  have hb := dueF_len now l p
  have h2 : mDueF now (l.take (p + 1)) = mDueF now (l.take p) ++ [l[p]?.getD default] := by rw [dueF_at hp, if_pos hw]
  rw [rowF, rowF, h2, List.set_append_right _ _ (Nat.le_refl _), Nat.sub_self, drop_at (d := default) (by omega), List.set_cons_zero]
  simp
theorem rowF_stay {now : Int} {l : List TFind} {p : Nat} (hp : p < l.length) (hw : mIsDue now (l[p]?.getD default) = false) : rowF now l (p + 1) = rowF now l p := by
  have h2 : mDueF now (l.take (p + 1)) = mDueF now (l.take p) := by rw [dueF_at hp, if_neg (by simp [hw]), List.append_nil]
  rw [rowF, rowF, h2]
/-- loop.example/g03007/impl.dropKept -/
noncomputable def c32 : Con := mkCon 32 true (α := (List TFind) × Int) (fun x => (fun (l : List TFind) (now : Int) => ([.own (0, 0) 8 0 l.length, dI now] : List D)) x.1 x.2) (fun x => (fun (l : List TFind) (now : Int) => ([((0, 0), .arr false 8 yTFind (ML encTFind l))] : List (Nm × OO))) x.1 x.2) (fun x => (fun (l : List TFind) (now : Int) => l.length ≤ 1099511627776) x.1 x.2) (fun x => (fun (l : List TFind) (now : Int) => (.own (0, 0) 8 0 (mDueF now l).length : D)) x.1 x.2) (fun x => (fun (l : List TFind) (now : Int) => ([((0, 0), .arr false 8 yTFind (ML encTFind (mDueF now l ++ List.replicate (l.length - (mDueF now l).length) zF)))] : List (Nm × OO))) x.1 x.2)
@[simp] theorem c32_f : c32.f = 32 := rfl
@[simp] theorem c32_own : c32.own = true := rfl
theorem c32_inj : ∀ u_ v_ : (List TFind) × Int, ((fun x => (fun (l : List TFind) (now : Int) => ([.own (0, 0) 8 0 l.length, dI now] : List D)) x.1 x.2) u_).map nz = ((fun x => (fun (l : List TFind) (now : Int) => ([.own (0, 0) 8 0 l.length, dI now] : List D)) x.1 x.2) v_).map nz → (fun x => (fun (l : List TFind) (now : Int) => ([((0, 0), .arr false 8 yTFind (ML encTFind l))] : List (Nm × OO))) x.1 x.2) u_ = (fun x => (fun (l : List TFind) (now : Int) => ([((0, 0), .arr false 8 yTFind (ML encTFind l))] : List (Nm × OO))) x.1 x.2) v_ → u_ = v_ := by
  intro u_ v_ h h2_
  obtain ⟨l, now⟩ := u_
  obtain ⟨l', now'⟩ := v_
  simp [nz_lit, nz1_lit, nz_agg, nz_sl, nz1_sl, nz_sx, nz_el, nz1_el, nz_own, nz1_own, nz_ptr, nz_fn, nz_iface] at h h2_
  first | (simp [h, h2_]; done) | (obtain ⟨h3_, h4_⟩ := List.append_inj h2_ h.1; simp_all; done) | simp_all | grind
@[simp] theorem c32_fn (l : List TFind) (now : Int) : c32.fn ([.own (0, 0) 8 0 l.length, dI now]) ([((0, 0), .arr false 8 yTFind (ML encTFind l))]) = some (l.length ≤ 1099511627776, .own (0, 0) 8 0 (mDueF now l).length, [((0, 0), .arr false 8 yTFind (ML encTFind (mDueF now l ++ List.replicate (l.length - (mDueF now l).length) zF)))]) :=
  mkCon_fn c32_inj ((l, now) : (List TFind) × Int) rfl rfl
theorem c32_pc (l : List TFind) (now : Int) (hpre : l.length ≤ 1099511627776) : PCo Tryd.prog 32 ([.own (0, 0) 8 0 l.length, dI now]) (Tab.of ([((0, 0), .arr false 8 yTFind (ML encTFind l))])) (.own (0, 0) 8 0 (mDueF now l).length) (Tab.of ([((0, 0), .arr false 8 yTFind (ML encTFind (mDueF now l ++ List.replicate (l.length - (mDueF now l).length) zF)))])) := by
  refine pco_of_run [] (E := ⟨[c9], [], []⟩) (m := false) (base := 0) (Env.ok_cons c9_ok Env.ok_nil) G_ok mix 300 6 Tryd.func32 (by kernel_rfl) rfl (by kernel_rfl) (by kernel_rfl) rfl ?_
  simp [Tryd.f32]
  refine loop_inv (fun p : Nat => p ≤ l.length) (fun p => [(0, .own (0, 0) 8 0 l.length), (1, dI now), (5, dI (mDueF now (l.take p)).length), (8, .own (0, 0) 8 0 l.length), (9, dI l.length), (10, dI p)]) (fun p => [((0, 0), .arr false 8 yTFind (ML encTFind (rowF now l p)))]) 2 (fun p => l.length - p) 0 400 (by simp) (by simp) (by simp [rowF, mDueF]) ?_
  intro p hp
  have hl := rowF_len now l hp
  have hb := dueF_len now l p
  simp [hl]
  refine ⟨fun hlt => ?_, fun hge => ?_⟩
  · have hg := rowF_get (now := now) hlt
    simp only [hg]
    have hT : mIsDue now (l[p]?.getD default) = true → mDueF now (l.take (p + 1)) = mDueF now (l.take p) ++ [l[p]?.getD default] := fun h => by rw [dueF_at hlt, if_pos h]
    have hF : mIsDue now (l[p]?.getD default) = false → mDueF now (l.take (p + 1)) = mDueF now (l.take p) := fun h => by rw [dueF_at hlt, if_neg (by simp [h]), List.append_nil]
    refine ⟨hlt, fun hw => ?_, fun hw => ?_⟩
    · have hs := rowF_set hlt hw
      have e := hT hw
      repeat' (first | omega | refine And.intro ?_ ?_ | intro _)
      exact Again.mk (p + 1) (by omega) (by simp [e, hs]) (by first | omega | (simp; omega))
    · have hs := rowF_stay hlt hw
      have e := hF hw
      repeat' (first | omega | refine And.intro ?_ ?_ | intro _)
      exact Again.mk (p + 1) (by omega) (by simp [e, hs]) (by first | omega | (simp; omega))
  · have : p = l.length := by omega
    subst this
    have hk : (mDueF now l).length ≤ l.length := List.length_filter_le _ _
    have hr : rowF now l l.length = mDueF now l ++ l.drop (mDueF now l).length := by rw [rowF, List.take_length]
    rw [List.take_length, hr]
    refine ⟨⟨by omega, by omega⟩, by omega, rfl, ?_⟩
    rw [List.take_left' rfl, List.drop_of_length_le (by first | (simp; done) | (simp; omega)), List.append_nil]
    rfl
theorem c32_ok : c32.ok Tryd.prog := mkCon_ok fun ⟨l, now⟩ hpre => c32_pc l now hpre
def mDueT (l : List TFind) (now : Int) : List Int := (mDueF now l).map nFind
theorem mDueT_len (l : List TFind) (now : Int) : (mDueT l now).length ≤ l.length := by
  simp only [mDueT, List.length_map]; exact List.length_filter_le _ _
/-- loop.example/g03007/impl.DueThings -/
noncomputable def c14 : Con := mkCon 14 false (α := (List TFind) × Int) (fun x => (fun (l : List TFind) (now : Int) => [encLTFind l, dI now]) x.1 x.2) (fun _ => []) (fun x => (fun (l : List TFind) (now : Int) => l.length ≤ 1073741823) x.1 x.2) (fun x => (fun (l : List TFind) (now : Int) => (.own (0, 1) 1 0 (mDueT l now).length : D)) x.1 x.2) (fun x => (fun (l : List TFind) (now : Int) => [((0, 1), .arr false 1 (dI 0) (ML dI (mDueT l now)))]) x.1 x.2)
@[simp] theorem c14_f : c14.f = 14 := rfl
@[simp] theorem c14_own : c14.own = false := rfl
theorem c14_inj : ∀ u_ v_ : (List TFind) × Int, ((fun x => (fun (l : List TFind) (now : Int) => [encLTFind l, dI now]) x.1 x.2) u_).map nz = ((fun x => (fun (l : List TFind) (now : Int) => [encLTFind l, dI now]) x.1 x.2) v_).map nz → u_ = v_ := by
  intro u_ v_ h
  obtain ⟨l, now⟩ := u_
  obtain ⟨l', now'⟩ := v_
  simp [nz_lit, nz1_lit, nz_agg, nz_sl, nz1_sl, encLTFind] at h
  first | (simp [h]; done) | (obtain ⟨⟩ := h; simp_all; done) | simp_all
@[simp] theorem c14_fn (l : List TFind) (now : Int) : c14.fn [.sl false 8 yTFind (ML encTFind l), .lit (.int .i64 now)] [] = some ((fun (l : List TFind) (now : Int) => l.length ≤ 1073741823) l now, (fun (l : List TFind) (now : Int) => (.own (0, 1) 1 0 (mDueT l now).length : D)) l now, (fun (l : List TFind) (now : Int) => [((0, 1), .arr false 1 (dI 0) (ML dI (mDueT l now)))]) l now) :=
  mkCon_fn (fun x y h _ => c14_inj x y h) ((l, now) : (List TFind) × Int) (by simp [nz, nz1, ML_nil, encLTFind]) rfl
@[simp] theorem c14_fn1 (s_l : Nat) (z_l : D) (now : Int) : c14.fn [.sl false s_l z_l [], .lit (.int .i64 now)] [] = some ((fun (l : List TFind) (now : Int) => l.length ≤ 1073741823) [] now, (fun (l : List TFind) (now : Int) => (.own (0, 1) 1 0 (mDueT l now).length : D)) [] now, (fun (l : List TFind) (now : Int) => [((0, 1), .arr false 1 (dI 0) (ML dI (mDueT l now)))]) [] now) :=
  mkCon_fn (fun x y h _ => c14_inj x y h) (([], now) : (List TFind) × Int) (by simp [nz, nz1, ML_nil, encLTFind]) rfl
theorem c14_pc (l : List TFind) (now : Int) (hpre : l.length ≤ 1073741823) : PCo Tryd.prog 14 [encLTFind l, dI now] (Tab.of []) (.own (0, 1) 1 0 (mDueT l now).length) (Tab.of [((0, 1), .arr false 1 (dI 0) (ML dI (mDueT l now)))]) := by
  refine pco_of_run [] (E := ⟨[c32, c33], [], []⟩) (m := false) (base := 0) (Env.ok_cons c32_ok (Env.ok_cons c33_ok Env.ok_nil)) G_ok mix 300 6 Tryd.func14 (by kernel_rfl) rfl (by kernel_rfl) (by kernel_rfl) rfl ?_
  simp [Tryd.f14]
  have hk : (mDueF now l).length ≤ l.length := List.length_filter_le _ _
  have hm : (mDueT l now).length = (mDueF now l).length := by simp [mDueT]
  have hd : mDueT l now = (mDueF now l).map nFind := rfl
  rw [hm, hd]
  generalize mDueF now l = d at hk ⊢
  refine ⟨⟨by omega, by omega⟩, ?_⟩
  refine loop_inv (fun p : Nat => p ≤ d.length) (fun p => [(5, .own (1, 1) 1 0 p), (12, .own (0, 1) 8 0 d.length), (13, dI d.length), (14, dI p)]) (fun p => [((0, 1), .arr false 8 yTFind (ML encTFind (d ++ List.replicate (l.length - d.length) zF))), ((1, 1), .arr false 1 (dI 0) (ML dI ((d.take p).map nFind)))]) 2 (fun p => d.length - p) 0 400 (by simp) (by simp) (by simp) ?_
  intro p hp
  simp
  refine ⟨fun hlt => ?_, fun hge => ?_⟩
  · have hg : (d ++ List.replicate (l.length - d.length) zF)[p]?.getD default = d[p]?.getD default := by rw [List.getElem?_append_left hlt]
    have hs : (d.take (p + 1)).map nFind = (d.take p).map nFind ++ [nFind (d[p]?.getD default)] := by rw [take_at (d := default) hlt]; simp
    have hs2 : List.take p (List.map nFind d) ++ [(d[p]?.getD default).Thing.Id] = List.take (p + 1) (List.map nFind d) := by rw [← List.map_take, ← List.map_take, hs]; rfl
    have hm : min p d.length = p := by omega
    simp only [hg]
    repeat' (first | omega | refine And.intro ?_ ?_ | intro _)
    all_goals first | exact Again.mk (p + 1) (by omega) (by simp [hs2, hm]) (by first | omega | (simp; omega)) | trace_state
  · have : p = d.length := by omega
    subst this
    simp [← List.map_take]
theorem c14_ok : c14.ok Tryd.prog := mkCon_ok fun ⟨l, now⟩ hpre => c14_pc l now hpre
end Go.Proofs.YtpnfkjbnhholfaaDoor
