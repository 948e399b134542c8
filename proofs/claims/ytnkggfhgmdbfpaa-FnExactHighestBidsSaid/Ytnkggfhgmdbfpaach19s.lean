/- Contracts of the functions that the laws run. -/
import Derived.Test.Ytnkggfhgmdbfpaach19
import Derived.Test.Ytnkggfhgmdbfpaasortk
import Derived.Test.YtnkggfhgmdbfpaaEngB
namespace Go.Proofs.Ytnkggfhgmdbfpaa
open Go Go.Eng
set_option linter.unusedSimpArgs false
set_option linter.unusedVariables false
set_option maxRecDepth 10000
set_option maxHeartbeats 1000000
/-- slices.Clone[[]loop.example/g03007/impl.Bi -/
noncomputable def c220 : Con := mkCon 220 false (α := (List TBid)) (fun x => (fun (l : List TBid) => [encLTBid l]) x) (fun _ => []) (fun x => (fun (l : List TBid) => l.length ≤ 1073741824) x) (fun x => (fun (l : List TBid) => (.own (0, 1) 3 0 l.length : D)) x) (fun x => (fun (l : List TBid) => [((0, 1), .arr false 3 yTBid (ML encTBid l))]) x)
@[simp] theorem c220_f : c220.f = 220 := rfl
@[simp] theorem c220_own : c220.own = false := rfl
theorem c220_inj : ∀ u_ v_ : (List TBid), ((fun x => (fun (l : List TBid) => [encLTBid l]) x) u_).map nz = ((fun x => (fun (l : List TBid) => [encLTBid l]) x) v_).map nz → u_ = v_ := by
  intro u_ v_ h
  obtain l := u_
  obtain l' := v_
  simp [nz_lit, nz1_lit, nz_agg, nz_sl, nz1_sl, encLTBid] at h
  first | (simp [h]; done) | (obtain ⟨⟩ := h; simp_all; done) | simp_all
@[simp] theorem c220_fn (l : List TBid) : c220.fn [.sl false 3 yTBid (ML encTBid l)] [] = some ((fun (l : List TBid) => l.length ≤ 1073741824) l, (fun (l : List TBid) => (.own (0, 1) 3 0 l.length : D)) l, (fun (l : List TBid) => [((0, 1), .arr false 3 yTBid (ML encTBid l))]) l) :=
  mkCon_fn (fun x y h _ => c220_inj x y h) (l : (List TBid)) (by simp [nz, nz1, ML_nil, encLTBid]) rfl
@[simp] theorem c220_fn1 (s_l : Nat) (z_l : D) : c220.fn [.sl false s_l z_l []] [] = some ((fun (l : List TBid) => l.length ≤ 1073741824) [], (fun (l : List TBid) => (.own (0, 1) 3 0 l.length : D)) [], (fun (l : List TBid) => [((0, 1), .arr false 3 yTBid (ML encTBid l))]) []) :=
  mkCon_fn (fun x y h _ => c220_inj x y h) ([] : (List TBid)) (by simp [nz, nz1, ML_nil, encLTBid]) rfl
theorem c220_pc (l : List TBid) (hpre : l.length ≤ 1073741824) : PCo Try.prog 220 [encLTBid l] (Tab.of []) (.own (0, 1) 3 0 l.length) (Tab.of [((0, 1), .arr false 3 yTBid (ML encTBid l))]) := by
  by_cases hl : l = []
  · subst hl
    show PCo Try.prog 220 [.sl false 3 yTBid []] Tab.nil (.own (0, 1) 3 0 0) (Tab.of [((0, 1), .arr false 3 yTBid [])])
    refine pco_slice fun a cap => ?_
    cases a with
    | none =>
      refine pc_ghost (s' := 0) (z' := .any) ?_
      refine pco_of_run [] (tin := []) (E := ⟨[], []⟩) (m := false) (base := 0) Env.ok_nil G_ok mix 300 6 Try.func220 (by kernel_rfl) rfl (by kernel_rfl) (by kernel_rfl) rfl ?_
      simp [Try.f220]
    | some q =>
      refine pco_of_run [] (tin := []) (E := ⟨[], []⟩) (m := false) (base := 0) Env.ok_nil G_ok mix 300 6 Try.func220 (by kernel_rfl) rfl (by kernel_rfl) (by kernel_rfl) rfl ?_
      simp [Try.f220]
  · refine pco_of_run [] (E := ⟨[], []⟩) (m := false) (base := 0) Env.ok_nil G_ok mix 300 6 Try.func220 (by kernel_rfl) rfl (by kernel_rfl) (by kernel_rfl) rfl ?_
    simp [Try.f220, -nilS, nilS_ML hl]
    omega
theorem c220_ok : c220.ok Try.prog := mkCon_ok fun l hpre => c220_pc l hpre
def ltB (x y : TBid) : Bool := decide (y.Cents < x.Cents)
abbrev sortB (l : List TBid) (p : Nat) : List TBid := sortK ltB default l p
/-- (loop.example/g03007/impl.byHeight).Len -/
noncomputable def c326 : Con := mkCon 326 false (α := (List TBid)) (fun x => (fun (l : List TBid) => [encLTBid l]) x) (fun _ => []) (fun x => (fun (l : List TBid) => True) x) (fun x => (fun (l : List TBid) => (dI l.length : D)) x) (fun x => (fun (l : List TBid) => []) x)
@[simp] theorem c326_f : c326.f = 326 := rfl
@[simp] theorem c326_own : c326.own = false := rfl
theorem c326_inj : ∀ u_ v_ : (List TBid), ((fun x => (fun (l : List TBid) => [encLTBid l]) x) u_).map nz = ((fun x => (fun (l : List TBid) => [encLTBid l]) x) v_).map nz → u_ = v_ := by
  intro u_ v_ h
  obtain l := u_
  obtain l' := v_
  simp [nz_lit, nz1_lit, nz_agg, nz_sl, nz1_sl, encLTBid] at h
  first | (simp [h]; done) | (obtain ⟨⟩ := h; simp_all; done) | simp_all
@[simp] theorem c326_fn (l : List TBid) : c326.fn [.sl false 3 yTBid (ML encTBid l)] [] = some ((fun (l : List TBid) => True) l, (fun (l : List TBid) => (dI l.length : D)) l, (fun (l : List TBid) => []) l) :=
  mkCon_fn (fun x y h _ => c326_inj x y h) (l : (List TBid)) (by simp [nz, nz1, ML_nil, encLTBid]) rfl
@[simp] theorem c326_fn1 (s_l : Nat) (z_l : D) : c326.fn [.sl false s_l z_l []] [] = some ((fun (l : List TBid) => True) [], (fun (l : List TBid) => (dI l.length : D)) [], (fun (l : List TBid) => []) []) :=
  mkCon_fn (fun x y h _ => c326_inj x y h) ([] : (List TBid)) (by simp [nz, nz1, ML_nil, encLTBid]) rfl
theorem c326_pc (l : List TBid) : PCo Try.prog 326 [encLTBid l] (Tab.of []) (dI l.length) (Tab.of []) := by
  refine pco_of_run [] (E := ⟨[], []⟩) (m := false) (base := 0) Env.ok_nil G_ok mix 300 6 Try.func326 (by kernel_rfl) rfl (by kernel_rfl) (by kernel_rfl) rfl ?_
  simp [Try.f326]
  all_goals first | omega | (rw [Bool.eq_iff_iff]; simp; omega) | grind
theorem c326_ok : c326.ok Try.prog := mkCon_ok fun l hpre => c326_pc l
/-- (loop.example/g03007/impl.byHeight).Less -/
noncomputable def c327 : Con := mkCon 327 false (α := (List TBid) × Int × Int) (fun x => (fun (l : List TBid) (i : Int) (j : Int) => [encLTBid l, dI i, dI j]) x.1 x.2.1 x.2.2) (fun _ => []) (fun x => (fun (l : List TBid) (i : Int) (j : Int) => 0 ≤ i ∧ i < l.length ∧ 0 ≤ j ∧ j < l.length) x.1 x.2.1 x.2.2) (fun x => (fun (l : List TBid) (i : Int) (j : Int) => (dB (ltB (l[i.toNat]?.getD default) (l[j.toNat]?.getD default)) : D)) x.1 x.2.1 x.2.2) (fun x => (fun (l : List TBid) (i : Int) (j : Int) => []) x.1 x.2.1 x.2.2)
@[simp] theorem c327_f : c327.f = 327 := rfl
@[simp] theorem c327_own : c327.own = false := rfl
theorem c327_inj : ∀ u_ v_ : (List TBid) × Int × Int, ((fun x => (fun (l : List TBid) (i : Int) (j : Int) => [encLTBid l, dI i, dI j]) x.1 x.2.1 x.2.2) u_).map nz = ((fun x => (fun (l : List TBid) (i : Int) (j : Int) => [encLTBid l, dI i, dI j]) x.1 x.2.1 x.2.2) v_).map nz → u_ = v_ := by
  intro u_ v_ h
  obtain ⟨l, i, j⟩ := u_
  obtain ⟨l', i', j'⟩ := v_
  simp [nz_lit, nz1_lit, nz_agg, nz_sl, nz1_sl, encLTBid] at h
  first | (simp [h]; done) | (obtain ⟨⟩ := h; simp_all; done) | simp_all
@[simp] theorem c327_fn (l : List TBid) (i : Int) (j : Int) : c327.fn [.sl false 3 yTBid (ML encTBid l), .lit (.int .i64 i), .lit (.int .i64 j)] [] = some ((fun (l : List TBid) (i : Int) (j : Int) => 0 ≤ i ∧ i < l.length ∧ 0 ≤ j ∧ j < l.length) l i j, (fun (l : List TBid) (i : Int) (j : Int) => (dB (ltB (l[i.toNat]?.getD default) (l[j.toNat]?.getD default)) : D)) l i j, (fun (l : List TBid) (i : Int) (j : Int) => []) l i j) :=
  mkCon_fn (fun x y h _ => c327_inj x y h) ((l, i, j) : (List TBid) × Int × Int) (by simp [nz, nz1, ML_nil, encLTBid]) rfl
@[simp] theorem c327_fn1 (s_l : Nat) (z_l : D) (i : Int) (j : Int) : c327.fn [.sl false s_l z_l [], .lit (.int .i64 i), .lit (.int .i64 j)] [] = some ((fun (l : List TBid) (i : Int) (j : Int) => 0 ≤ i ∧ i < l.length ∧ 0 ≤ j ∧ j < l.length) [] i j, (fun (l : List TBid) (i : Int) (j : Int) => (dB (ltB (l[i.toNat]?.getD default) (l[j.toNat]?.getD default)) : D)) [] i j, (fun (l : List TBid) (i : Int) (j : Int) => []) [] i j) :=
  mkCon_fn (fun x y h _ => c327_inj x y h) (([], i, j) : (List TBid) × Int × Int) (by simp [nz, nz1, ML_nil, encLTBid]) rfl
theorem c327_pc (l : List TBid) (i : Int) (j : Int) (hpre : 0 ≤ i ∧ i < l.length ∧ 0 ≤ j ∧ j < l.length) : PCo Try.prog 327 [encLTBid l, dI i, dI j] (Tab.of []) (dB (ltB (l[i.toNat]?.getD default) (l[j.toNat]?.getD default))) (Tab.of []) := by
  refine pco_of_run [] (E := ⟨[], []⟩) (m := false) (base := 0) Env.ok_nil G_ok mix 300 6 Try.func327 (by kernel_rfl) rfl (by kernel_rfl) (by kernel_rfl) rfl ?_
  simp [Try.f327]
  simp [ltB]
  omega
theorem c327_ok : c327.ok Try.prog := mkCon_ok fun ⟨l, i, j⟩ hpre => c327_pc l i j hpre
/-- (loop.example/g03007/impl.byHeight).Swap -/
noncomputable def c328 : Con := mkCon 328 true (α := (List TBid) × Int × Int) (fun x => (fun (l : List TBid) (i : Int) (j : Int) => ([.own (0, 0) 3 0 l.length, dI i, dI j] : List D)) x.1 x.2.1 x.2.2) (fun x => (fun (l : List TBid) (i : Int) (j : Int) => ([((0, 0), .arr false 3 yTBid (ML encTBid l))] : List (Nm × OO))) x.1 x.2.1 x.2.2) (fun x => (fun (l : List TBid) (i : Int) (j : Int) => 0 ≤ i ∧ i < l.length ∧ 0 ≤ j ∧ j < l.length) x.1 x.2.1 x.2.2) (fun x => (fun (l : List TBid) (i : Int) (j : Int) => (.tup [] : D)) x.1 x.2.1 x.2.2) (fun x => (fun (l : List TBid) (i : Int) (j : Int) => ([((0, 0), .arr false 3 yTBid (ML encTBid ((l.set i.toNat (l[j.toNat]?.getD default)).set j.toNat (l[i.toNat]?.getD default))))] : List (Nm × OO))) x.1 x.2.1 x.2.2)
@[simp] theorem c328_f : c328.f = 328 := rfl
@[simp] theorem c328_own : c328.own = true := rfl
theorem c328_inj : ∀ u_ v_ : (List TBid) × Int × Int, ((fun x => (fun (l : List TBid) (i : Int) (j : Int) => ([.own (0, 0) 3 0 l.length, dI i, dI j] : List D)) x.1 x.2.1 x.2.2) u_).map nz = ((fun x => (fun (l : List TBid) (i : Int) (j : Int) => ([.own (0, 0) 3 0 l.length, dI i, dI j] : List D)) x.1 x.2.1 x.2.2) v_).map nz → (fun x => (fun (l : List TBid) (i : Int) (j : Int) => ([((0, 0), .arr false 3 yTBid (ML encTBid l))] : List (Nm × OO))) x.1 x.2.1 x.2.2) u_ = (fun x => (fun (l : List TBid) (i : Int) (j : Int) => ([((0, 0), .arr false 3 yTBid (ML encTBid l))] : List (Nm × OO))) x.1 x.2.1 x.2.2) v_ → u_ = v_ := by
  intro u_ v_ h h2_
  obtain ⟨l, i, j⟩ := u_
  obtain ⟨l', i', j'⟩ := v_
  simp [nz_lit, nz1_lit, nz_agg, nz_sl, nz1_sl, nz_sx, nz_el, nz1_el, nz_own, nz1_own, nz_ptr, nz_fn, nz_iface] at h h2_
  first | (simp [h, h2_]; done) | (obtain ⟨h3_, h4_⟩ := List.append_inj h2_ h.1; simp_all; done) | simp_all | grind
@[simp] theorem c328_fn (l : List TBid) (i : Int) (j : Int) : c328.fn ([.own (0, 0) 3 0 l.length, dI i, dI j]) ([((0, 0), .arr false 3 yTBid (ML encTBid l))]) = some (0 ≤ i ∧ i < l.length ∧ 0 ≤ j ∧ j < l.length, .tup [], [((0, 0), .arr false 3 yTBid (ML encTBid ((l.set i.toNat (l[j.toNat]?.getD default)).set j.toNat (l[i.toNat]?.getD default))))]) :=
  mkCon_fn c328_inj ((l, i, j) : (List TBid) × Int × Int) rfl rfl
theorem c328_pc (l : List TBid) (i : Int) (j : Int) (hpre : 0 ≤ i ∧ i < l.length ∧ 0 ≤ j ∧ j < l.length) : PCo Try.prog 328 ([.own (0, 0) 3 0 l.length, dI i, dI j]) (Tab.of ([((0, 0), .arr false 3 yTBid (ML encTBid l))])) (.tup []) (Tab.of ([((0, 0), .arr false 3 yTBid (ML encTBid ((l.set i.toNat (l[j.toNat]?.getD default)).set j.toNat (l[i.toNat]?.getD default))))])) := by
  refine pco_of_run [] (E := ⟨[], []⟩) (m := false) (base := 0) Env.ok_nil G_ok mix 300 6 Try.func328 (by kernel_rfl) rfl (by kernel_rfl) (by kernel_rfl) rfl ?_
  simp [Try.f328]
  omega
theorem c328_ok : c328.ok Try.prog := mkCon_ok fun ⟨l, i, j⟩ hpre => c328_pc l i j hpre
/-- sort.insertionSort -/
noncomputable def c279 : Con := mkCon 279 true (α := (List TBid) × Int × Int) (fun x => (fun (l : List TBid) (a : Int) (b : Int) => ([.iface 238 (.own (0, 0) 3 0 l.length), dI a, dI b] : List D)) x.1 x.2.1 x.2.2) (fun x => (fun (l : List TBid) (a : Int) (b : Int) => ([((0, 0), .arr false 3 yTBid (ML encTBid l))] : List (Nm × OO))) x.1 x.2.1 x.2.2) (fun x => (fun (l : List TBid) (a : Int) (b : Int) => l.length ≤ 20 ∧ 0 ≤ a ∧ a ≤ 20 ∧ b = l.length ∧ (a = 0 ∨ b ≤ a)) x.1 x.2.1 x.2.2) (fun x => (fun (l : List TBid) (a : Int) (b : Int) => (.tup [] : D)) x.1 x.2.1 x.2.2) (fun x => (fun (l : List TBid) (a : Int) (b : Int) => ([((0, 0), .arr false 3 yTBid (ML encTBid (if a = 0 then sortB l l.length else l)))] : List (Nm × OO))) x.1 x.2.1 x.2.2)
@[simp] theorem c279_f : c279.f = 279 := rfl
@[simp] theorem c279_own : c279.own = true := rfl
theorem c279_inj : ∀ u_ v_ : (List TBid) × Int × Int, ((fun x => (fun (l : List TBid) (a : Int) (b : Int) => ([.iface 238 (.own (0, 0) 3 0 l.length), dI a, dI b] : List D)) x.1 x.2.1 x.2.2) u_).map nz = ((fun x => (fun (l : List TBid) (a : Int) (b : Int) => ([.iface 238 (.own (0, 0) 3 0 l.length), dI a, dI b] : List D)) x.1 x.2.1 x.2.2) v_).map nz → (fun x => (fun (l : List TBid) (a : Int) (b : Int) => ([((0, 0), .arr false 3 yTBid (ML encTBid l))] : List (Nm × OO))) x.1 x.2.1 x.2.2) u_ = (fun x => (fun (l : List TBid) (a : Int) (b : Int) => ([((0, 0), .arr false 3 yTBid (ML encTBid l))] : List (Nm × OO))) x.1 x.2.1 x.2.2) v_ → u_ = v_ := by
  intro u_ v_ h h2_
  obtain ⟨l, a, b⟩ := u_
  obtain ⟨l', a', b'⟩ := v_
  simp [nz_lit, nz1_lit, nz_agg, nz_sl, nz1_sl, nz_sx, nz_el, nz1_el, nz_own, nz1_own, nz_ptr, nz_fn, nz_iface] at h h2_
  first | (simp [h, h2_]; done) | (obtain ⟨h3_, h4_⟩ := List.append_inj h2_ h.1; simp_all; done) | simp_all | grind
@[simp] theorem c279_fn (l : List TBid) (a : Int) (b : Int) : c279.fn ([.iface 238 (.own (0, 0) 3 0 l.length), dI a, dI b]) ([((0, 0), .arr false 3 yTBid (ML encTBid l))]) = some (l.length ≤ 20 ∧ 0 ≤ a ∧ a ≤ 20 ∧ b = l.length ∧ (a = 0 ∨ b ≤ a), .tup [], [((0, 0), .arr false 3 yTBid (ML encTBid (if a = 0 then sortB l l.length else l)))]) :=
  mkCon_fn c279_inj ((l, a, b) : (List TBid) × Int × Int) rfl rfl
theorem c279_pc (l : List TBid) (a : Int) (b : Int) (hpre : l.length ≤ 20 ∧ 0 ≤ a ∧ a ≤ 20 ∧ b = l.length ∧ (a = 0 ∨ b ≤ a)) : PCo Try.prog 279 ([.iface 238 (.own (0, 0) 3 0 l.length), dI a, dI b]) (Tab.of ([((0, 0), .arr false 3 yTBid (ML encTBid l))])) (.tup []) (Tab.of ([((0, 0), .arr false 3 yTBid (ML encTBid (if a = 0 then sortB l l.length else l)))])) := by
  refine pco_of_run [] (E := ⟨[c327, c328], [(238, "Less", 327), (238, "Swap", 328)]⟩) (m := false) (base := 0) (Env.ok_cons c327_ok (Env.ok_cons c328_ok (Env.ok_me (meth_of (by kernel_rfl) (by kernel_rfl)) (Env.ok_me (meth_of (by kernel_rfl) (by kernel_rfl)) Env.ok_nil)))) G_ok mix 300 6 Try.func279 (by kernel_rfl) rfl (by kernel_rfl) (by kernel_rfl) rfl ?_
  simp [Try.f279]
  obtain ⟨hp, ha, ha2, hb, hab⟩ := hpre
  subst hb
  refine ⟨by omega, ?_⟩
  by_cases h0 : a = 0 ∧ 0 < l.length
  · obtain ⟨h0, hl⟩ := h0
    subst h0
    have hstart : l = sortB l 1 ++ l.tail := by have := sortK_one (lt := ltB) (d := default) l hl; simpa using this.symm
    refine loop_inv (fun i : Nat => 1 ≤ i ∧ i ≤ l.length) (fun i => [(0, .iface 238 (.own (0, 0) 3 0 l.length)), (1, dI 0), (2, dI l.length), (6, dI i)]) (fun i => [((0, 0), .arr false 3 yTBid (ML encTBid (sortB l i ++ l.drop i)))]) 2 (fun i => l.length - i) 1 400 (by simp) (by simp; omega) (by simp; exact hstart) ?_
    intro i ⟨hi1, hi⟩
    simp
    refine ⟨fun hlt => ?_, fun hge => ?_⟩
    · have hPl : (sortB l i).length = i := sortK_len l i
      have hst := rowK_start (lt := ltB) (d := default) l hlt
      refine loop_inv (fun j : Nat => j ≤ i ∧ cutF ltB default (l[i]?.getD default) (sortB l i) i = cutF ltB default (l[i]?.getD default) (sortB l i) j) (fun j => [(0, .iface 238 (.own (0, 0) 3 0 l.length)), (1, dI 0), (2, dI l.length), (6, dI i), (7, dI j)]) (fun j => [((0, 0), .arr false 3 yTBid (ML encTBid (rowK (l[i]?.getD default) (sortB l i) (l.drop (i + 1)) j)))]) 2 (fun j => j) i 400 (by simp) (by simp) (by simp [← hst]) ?_
      intro j ⟨hj, hc⟩
      have hrl : (rowK (l[i]?.getD default) (sortB l i) (l.drop (i + 1)) j).length = l.length := by
        rw [rowK_len _ _ _ (by omega), hPl]; simp; omega
      have hpl : preL l.length (rowK (l[i]?.getD default) (sortB l i) (l.drop (i + 1)) j) = rowK (l[i]?.getD default) (sortB l i) (l.drop (i + 1)) j := preL_full (by omega)
      cases j with
      | zero =>
        have hstop := rowK_stop (lt := ltB) (d := default) l (i := i) (j := 0) (by rw [hc]; rfl)
        simp
        refine ⟨by omega, Again.mk (i + 1) ⟨by omega, by omega⟩ (by simp [hstop]) (by first | omega | (simp; omega))⟩
      | succ j =>
        have h1 := rowK_at (d := default) (l[i]?.getD default) (sortB l i) (l.drop (i + 1)) (j := j + 1) (by omega)
        have h2 := rowK_before (d := default) (l[i]?.getD default) (sortB l i) (l.drop (i + 1)) (j := j) (by omega)
        have hsw : ∀ a b : Int, c328.fn [.own (0, 0) 3 0 l.length, dI a, dI b] [((0, 0), .arr false 3 yTBid (ML encTBid (rowK (l[i]?.getD default) (sortB l i) (l.drop (i + 1)) (j + 1))))] = some ((0 ≤ a ∧ a < l.length ∧ 0 ≤ b ∧ b < l.length), .tup [], [((0, 0), .arr false 3 yTBid (ML encTBid (((rowK (l[i]?.getD default) (sortB l i) (l.drop (i + 1)) (j + 1)).set a.toNat ((rowK (l[i]?.getD default) (sortB l i) (l.drop (i + 1)) (j + 1))[b.toNat]?.getD default)).set b.toNat ((rowK (l[i]?.getD default) (sortB l i) (l.drop (i + 1)) (j + 1))[a.toNat]?.getD default))))]) := fun a b => by
          have h := c328_fn (l := rowK (l[i]?.getD default) (sortB l i) (l.drop (i + 1)) (j + 1)) (i := a) (j := b)
          rw [hrl] at h; exact h
        have hset := rowK_swap (d := default) (l[i]?.getD default) (sortB l i) (l.drop (i + 1)) (j := j) (by omega)
        have e1 : ((j : Int) + 1 - 1).toNat = j := by omega
        have e2 : ((j : Int) + 1).toNat = j + 1 := by omega
        simp [hpl, hsw, e1, e2, h1, h2, hset, hrl]
        have hcs : cutF ltB default (l[i]?.getD default) (sortB l i) (j + 1) = if ltB (l[i]?.getD default) ((sortB l i)[j]?.getD default) then cutF ltB default (l[i]?.getD default) (sortB l i) j else j + 1 := rfl
        refine ⟨by omega, fun hw => ⟨by omega, by omega, Again.mk j ⟨by omega, by rw [hc, hcs, if_pos hw]⟩ (by simp) (by first | omega | (simp; omega))⟩, fun hw => ⟨by omega, ?_⟩⟩
        have hstop := rowK_stop (lt := ltB) (d := default) l (i := i) (j := j + 1) (by rw [hc, hcs, if_neg (by simp [hw])])
        exact Again.mk (i + 1) ⟨by omega, by omega⟩ (by simp [hstop]) (by first | omega | (simp; omega))
    · have : i = l.length := by omega
      subst this
      simp
  · have hend : ¬ a + 1 < l.length := by omega
    have hrow : (if a = 0 then sortB l l.length else l) = l := by
      split
      · have : l = [] := List.eq_nil_of_length_eq_zero (by omega)
        subst this; rfl
      · rfl
    refine loop_inv (fun _ : Unit => True) (fun _ => [(0, .iface 238 (.own (0, 0) 3 0 l.length)), (1, dI a), (2, dI l.length), (6, dI (a + 1))]) (fun _ => [((0, 0), .arr false 3 yTBid (ML encTBid l))]) 2 (fun _ => 0) () 400 (by simp) (by simp) (by simp) ?_
    intro u _
    simp [hend, hrow]
theorem c279_ok : c279.ok Try.prog := mkCon_ok fun ⟨l, a, b⟩ hpre => c279_pc l a b hpre
/-- sort.stable -/
noncomputable def c258 : Con := mkCon 258 true (α := (List TBid) × Int) (fun x => (fun (l : List TBid) (n : Int) => ([.iface 238 (.own (0, 0) 3 0 l.length), dI n] : List D)) x.1 x.2) (fun x => (fun (l : List TBid) (n : Int) => ([((0, 0), .arr false 3 yTBid (ML encTBid l))] : List (Nm × OO))) x.1 x.2) (fun x => (fun (l : List TBid) (n : Int) => l.length ≤ 20 ∧ n = l.length) x.1 x.2) (fun x => (fun (l : List TBid) (n : Int) => (.tup [] : D)) x.1 x.2) (fun x => (fun (l : List TBid) (n : Int) => ([((0, 0), .arr false 3 yTBid (ML encTBid (sortB l l.length)))] : List (Nm × OO))) x.1 x.2)
@[simp] theorem c258_f : c258.f = 258 := rfl
@[simp] theorem c258_own : c258.own = true := rfl
theorem c258_inj : ∀ u_ v_ : (List TBid) × Int, ((fun x => (fun (l : List TBid) (n : Int) => ([.iface 238 (.own (0, 0) 3 0 l.length), dI n] : List D)) x.1 x.2) u_).map nz = ((fun x => (fun (l : List TBid) (n : Int) => ([.iface 238 (.own (0, 0) 3 0 l.length), dI n] : List D)) x.1 x.2) v_).map nz → (fun x => (fun (l : List TBid) (n : Int) => ([((0, 0), .arr false 3 yTBid (ML encTBid l))] : List (Nm × OO))) x.1 x.2) u_ = (fun x => (fun (l : List TBid) (n : Int) => ([((0, 0), .arr false 3 yTBid (ML encTBid l))] : List (Nm × OO))) x.1 x.2) v_ → u_ = v_ := by
  intro u_ v_ h h2_
  obtain ⟨l, n⟩ := u_
  obtain ⟨l', n'⟩ := v_
  simp [nz_lit, nz1_lit, nz_agg, nz_sl, nz1_sl, nz_sx, nz_el, nz1_el, nz_own, nz1_own, nz_ptr, nz_fn, nz_iface] at h h2_
  first | (simp [h, h2_]; done) | (obtain ⟨h3_, h4_⟩ := List.append_inj h2_ h.1; simp_all; done) | simp_all | grind
@[simp] theorem c258_fn (l : List TBid) (n : Int) : c258.fn ([.iface 238 (.own (0, 0) 3 0 l.length), dI n]) ([((0, 0), .arr false 3 yTBid (ML encTBid l))]) = some (l.length ≤ 20 ∧ n = l.length, .tup [], [((0, 0), .arr false 3 yTBid (ML encTBid (sortB l l.length)))]) :=
  mkCon_fn c258_inj ((l, n) : (List TBid) × Int) rfl rfl
theorem c258_pc (l : List TBid) (n : Int) (hpre : l.length ≤ 20 ∧ n = l.length) : PCo Try.prog 258 ([.iface 238 (.own (0, 0) 3 0 l.length), dI n]) (Tab.of ([((0, 0), .arr false 3 yTBid (ML encTBid l))])) (.tup []) (Tab.of ([((0, 0), .arr false 3 yTBid (ML encTBid (sortB l l.length)))])) := by
  refine pco_of_run [] (E := ⟨[c279, c279], []⟩) (m := false) (base := 0) (Env.ok_cons c279_ok (Env.ok_cons c279_ok Env.ok_nil)) G_ok mix 300 6 Try.func258 (by kernel_rfl) rfl (by kernel_rfl) (by kernel_rfl) rfl ?_
  simp [Try.f258]
  obtain ⟨hp, hn⟩ := hpre
  subst hn
  have hsl : (sortB l l.length).length = l.length := sortK_len l _
  have hfn : ∀ a b : Int, c279.fn [.iface 238 (.own (0, 0) 3 0 l.length), dI a, dI b] [((0, 0), .arr false 3 yTBid (ML encTBid (sortB l l.length)))] = some (l.length ≤ 20 ∧ 0 ≤ a ∧ a ≤ 20 ∧ b = l.length ∧ (a = 0 ∨ b ≤ a), .tup [], [((0, 0), .arr false 3 yTBid (ML encTBid (if a = 0 then sortB (sortB l l.length) l.length else sortB l l.length)))]) := fun a b => by
    have h := c279_fn (l := sortB l l.length) (a := a) (b := b)
    rw [hsl] at h; exact h
  have hno : ¬ (20 : Int) < l.length := by omega
  refine loop_inv (fun k : Nat => k = 0 ∨ (k = 1 ∧ l.length = 20)) (fun k => [(0, .iface 238 (.own (0, 0) 3 0 l.length)), (1, dI l.length), (4, dI 20), (5, dI (20 * k)), (6, dI (20 + 20 * k))]) (fun k => [((0, 0), .arr false 3 yTBid (ML encTBid (if k = 0 then l else sortB l l.length)))]) 2 (fun k => 1 - k) 0 400 (by simp) (by simp) (by simp) ?_
  intro k hk
  rcases hk with rfl | ⟨rfl, h20⟩
  · by_cases h20 : l.length = 20
    · have hle : (20 : Int) ≤ l.length := by omega
      simp [hle]
      refine ⟨by omega, Again.mk 1 (.inr ⟨rfl, h20⟩) (by simp) (by simp)⟩
    · have hle : ¬ (20 : Int) ≤ l.length := by omega
      simp [hle]
      refine ⟨by omega, ?_⟩
      refine loop_inv (fun _ : Unit => True) (fun _ => [(0, .iface 238 (.own (0, 0) 3 0 l.length)), (1, dI l.length), (4, dI 20)]) (fun _ => [((0, 0), .arr false 3 yTBid (ML encTBid (sortB l l.length)))]) 2 (fun _ => 0) () 400 (by simp) (by simp) (by simp) ?_
      intro u _
      simp [hno]
  · have hle : ¬ (40 : Int) ≤ l.length := by omega
    simp [hle, hfn]
    refine ⟨by omega, ?_⟩
    refine loop_inv (fun _ : Unit => True) (fun _ => [(0, .iface 238 (.own (0, 0) 3 0 l.length)), (1, dI l.length), (4, dI 20)]) (fun _ => [((0, 0), .arr false 3 yTBid (ML encTBid (sortB l l.length)))]) 2 (fun _ => 0) () 400 (by simp) (by simp) (by simp) ?_
    intro u _
    simp [hno]
theorem c258_ok : c258.ok Try.prog := mkCon_ok fun ⟨l, n⟩ hpre => c258_pc l n hpre
/-- sort.Stable -/
noncomputable def c221 : Con := mkCon 221 true (α := (List TBid)) (fun x => (fun (l : List TBid) => ([.iface 238 (.own (0, 0) 3 0 l.length)] : List D)) x) (fun x => (fun (l : List TBid) => ([((0, 0), .arr false 3 yTBid (ML encTBid l))] : List (Nm × OO))) x) (fun x => (fun (l : List TBid) => l.length ≤ 20) x) (fun x => (fun (l : List TBid) => (.tup [] : D)) x) (fun x => (fun (l : List TBid) => ([((0, 0), .arr false 3 yTBid (ML encTBid (sortB l l.length)))] : List (Nm × OO))) x)
@[simp] theorem c221_f : c221.f = 221 := rfl
@[simp] theorem c221_own : c221.own = true := rfl
theorem c221_inj : ∀ u_ v_ : (List TBid), ((fun x => (fun (l : List TBid) => ([.iface 238 (.own (0, 0) 3 0 l.length)] : List D)) x) u_).map nz = ((fun x => (fun (l : List TBid) => ([.iface 238 (.own (0, 0) 3 0 l.length)] : List D)) x) v_).map nz → (fun x => (fun (l : List TBid) => ([((0, 0), .arr false 3 yTBid (ML encTBid l))] : List (Nm × OO))) x) u_ = (fun x => (fun (l : List TBid) => ([((0, 0), .arr false 3 yTBid (ML encTBid l))] : List (Nm × OO))) x) v_ → u_ = v_ := by
  intro u_ v_ h h2_
  obtain l := u_
  obtain l' := v_
  simp [nz_lit, nz1_lit, nz_agg, nz_sl, nz1_sl, nz_sx, nz_el, nz1_el, nz_own, nz1_own, nz_ptr, nz_fn, nz_iface] at h h2_
  first | (simp [h, h2_]; done) | (obtain ⟨h3_, h4_⟩ := List.append_inj h2_ h.1; simp_all; done) | simp_all | grind
@[simp] theorem c221_fn (l : List TBid) : c221.fn ([.iface 238 (.own (0, 0) 3 0 l.length)]) ([((0, 0), .arr false 3 yTBid (ML encTBid l))]) = some (l.length ≤ 20, .tup [], [((0, 0), .arr false 3 yTBid (ML encTBid (sortB l l.length)))]) :=
  mkCon_fn c221_inj (l : (List TBid)) rfl rfl
theorem c221_pc (l : List TBid) (hpre : l.length ≤ 20) : PCo Try.prog 221 ([.iface 238 (.own (0, 0) 3 0 l.length)]) (Tab.of ([((0, 0), .arr false 3 yTBid (ML encTBid l))])) (.tup []) (Tab.of ([((0, 0), .arr false 3 yTBid (ML encTBid (sortB l l.length)))])) := by
  refine pco_of_run [] (E := ⟨[c258, c326, c258], [(238, "Len", 326)]⟩) (m := false) (base := 0) (Env.ok_cons c258_ok (Env.ok_cons c326_ok (Env.ok_cons c258_ok (Env.ok_me (meth_of (by kernel_rfl) (by kernel_rfl)) Env.ok_nil)))) G_ok mix 300 6 Try.func221 (by kernel_rfl) rfl (by kernel_rfl) (by kernel_rfl) rfl ?_
  simp [Try.f221]
  omega
theorem c221_ok : c221.ok Try.prog := mkCon_ok fun l hpre => c221_pc l hpre
/-- loop.example/g03007/impl.highestFirst -/
noncomputable def c149 : Con := mkCon 149 false (α := (List TBid)) (fun x => (fun (l : List TBid) => [encLTBid l]) x) (fun _ => []) (fun x => (fun (l : List TBid) => l.length ≤ 20) x) (fun x => (fun (l : List TBid) => (.own (0, 1) 3 0 l.length : D)) x) (fun x => (fun (l : List TBid) => [((0, 1), .arr false 3 yTBid (ML encTBid (sortB l l.length)))]) x)
@[simp] theorem c149_f : c149.f = 149 := rfl
@[simp] theorem c149_own : c149.own = false := rfl
theorem c149_inj : ∀ u_ v_ : (List TBid), ((fun x => (fun (l : List TBid) => [encLTBid l]) x) u_).map nz = ((fun x => (fun (l : List TBid) => [encLTBid l]) x) v_).map nz → u_ = v_ := by
  intro u_ v_ h
  obtain l := u_
  obtain l' := v_
  simp [nz_lit, nz1_lit, nz_agg, nz_sl, nz1_sl, encLTBid] at h
  first | (simp [h]; done) | (obtain ⟨⟩ := h; simp_all; done) | simp_all
@[simp] theorem c149_fn (l : List TBid) : c149.fn [.sl false 3 yTBid (ML encTBid l)] [] = some ((fun (l : List TBid) => l.length ≤ 20) l, (fun (l : List TBid) => (.own (0, 1) 3 0 l.length : D)) l, (fun (l : List TBid) => [((0, 1), .arr false 3 yTBid (ML encTBid (sortB l l.length)))]) l) :=
  mkCon_fn (fun x y h _ => c149_inj x y h) (l : (List TBid)) (by simp [nz, nz1, ML_nil, encLTBid]) rfl
@[simp] theorem c149_fn1 (s_l : Nat) (z_l : D) : c149.fn [.sl false s_l z_l []] [] = some ((fun (l : List TBid) => l.length ≤ 20) [], (fun (l : List TBid) => (.own (0, 1) 3 0 l.length : D)) [], (fun (l : List TBid) => [((0, 1), .arr false 3 yTBid (ML encTBid (sortB l l.length)))]) []) :=
  mkCon_fn (fun x y h _ => c149_inj x y h) ([] : (List TBid)) (by simp [nz, nz1, ML_nil, encLTBid]) rfl
theorem c149_pc (l : List TBid) (hpre : l.length ≤ 20) : PCo Try.prog 149 [encLTBid l] (Tab.of []) (.own (0, 1) 3 0 l.length) (Tab.of [((0, 1), .arr false 3 yTBid (ML encTBid (sortB l l.length)))]) := by
  refine pco_of_run [] (E := ⟨[c220, c221, c221], []⟩) (m := false) (base := 0) (Env.ok_cons c220_ok (Env.ok_cons c221_ok (Env.ok_cons c221_ok Env.ok_nil))) G_ok mix 300 6 Try.func149 (by kernel_rfl) rfl (by kernel_rfl) (by kernel_rfl) rfl ?_
  simp [Try.f149]
  omega
theorem c149_ok : c149.ok Try.prog := mkCon_ok fun l hpre => c149_pc l hpre
/-- loop.example/g03007/spec.l19Sorted -/
noncomputable def c146 : Con := mkCon 146 false (α := (List TBid)) (fun x => (fun (l : List TBid) => [encLTBid l]) x) (fun _ => []) (fun x => (fun (l : List TBid) => l.length ≤ 1073741823) x) (fun x => (fun (l : List TBid) => (.own (0, 1) 3 0 l.length : D)) x) (fun x => (fun (l : List TBid) => [((0, 1), .arr false 3 yTBid (ML encTBid (sortB l l.length)))]) x)
@[simp] theorem c146_f : c146.f = 146 := rfl
@[simp] theorem c146_own : c146.own = false := rfl
theorem c146_inj : ∀ u_ v_ : (List TBid), ((fun x => (fun (l : List TBid) => [encLTBid l]) x) u_).map nz = ((fun x => (fun (l : List TBid) => [encLTBid l]) x) v_).map nz → u_ = v_ := by
  intro u_ v_ h
  obtain l := u_
  obtain l' := v_
  simp [nz_lit, nz1_lit, nz_agg, nz_sl, nz1_sl, encLTBid] at h
  first | (simp [h]; done) | (obtain ⟨⟩ := h; simp_all; done) | simp_all
@[simp] theorem c146_fn (l : List TBid) : c146.fn [.sl false 3 yTBid (ML encTBid l)] [] = some ((fun (l : List TBid) => l.length ≤ 1073741823) l, (fun (l : List TBid) => (.own (0, 1) 3 0 l.length : D)) l, (fun (l : List TBid) => [((0, 1), .arr false 3 yTBid (ML encTBid (sortB l l.length)))]) l) :=
  mkCon_fn (fun x y h _ => c146_inj x y h) (l : (List TBid)) (by simp [nz, nz1, ML_nil, encLTBid]) rfl
@[simp] theorem c146_fn1 (s_l : Nat) (z_l : D) : c146.fn [.sl false s_l z_l []] [] = some ((fun (l : List TBid) => l.length ≤ 1073741823) [], (fun (l : List TBid) => (.own (0, 1) 3 0 l.length : D)) [], (fun (l : List TBid) => [((0, 1), .arr false 3 yTBid (ML encTBid (sortB l l.length)))]) []) :=
  mkCon_fn (fun x y h _ => c146_inj x y h) ([] : (List TBid)) (by simp [nz, nz1, ML_nil, encLTBid]) rfl
theorem c146_pc (l : List TBid) (hpre : l.length ≤ 1073741823) : PCo Try.prog 146 [encLTBid l] (Tab.of []) (.own (0, 1) 3 0 l.length) (Tab.of [((0, 1), .arr false 3 yTBid (ML encTBid (sortB l l.length)))]) := by
  refine pco_of_run [1008] (E := ⟨[], []⟩) (m := false) (base := 0) Env.ok_nil G_ok mix 300 6 Try.func146 (by kernel_rfl) rfl (by kernel_rfl) (by kernel_rfl) rfl ?_
  simp [Try.f146]
  refine loop_inv (fun i : Nat => i ≤ l.length) (fun i => [(0, encLTBid l), (3, .own (0, 1) 3 0 i), (4, dI i)]) (fun i => [((0, 1), .arr false 3 yTBid (ML encTBid (sortB l i)))]) 2 (fun i => l.length - i) 0 400 (by simp) (by simp) (by simp [sortK]) ?_
  intro i hi
  have hPl : (sortB l i).length = i := sortK_len l i
  simp [hPl]
  refine ⟨fun hlt => ?_, fun hge => ?_⟩
  · refine loop_inv (fun j : Nat => j ≤ i ∧ cutF ltB default (l[i]?.getD default) (sortB l i) i = cutF ltB default (l[i]?.getD default) (sortB l i) j) (fun j => [(0, encLTBid l), (3, .own (0, 1) 3 0 i), (4, dI i), (5, dI j)]) (fun j => [((0, 1), .arr false 3 yTBid (ML encTBid (sortB l i)))]) 2 (fun j => j) i 400 (by simp) (by simp) (by simp) ?_
    intro j ⟨hj, hc⟩
    cases j with
    | zero =>
      have hins : sortB l (i + 1) = (l[i]?.getD default) :: sortB l i := by
        show insK ltB default _ _ = _
        rw [insK, hPl, hc]; rfl
      simp [hPl]
      exact ⟨⟨hlt, by omega⟩, by omega, Again.mk (i + 1) (by omega) (by simp [hins]; exact List.take_of_length_le (by omega)) (by first | omega | (simp; omega))⟩
    | succ j =>
      have hcs : cutF ltB default (l[i]?.getD default) (sortB l i) (j + 1) = if ltB (l[i]?.getD default) ((sortB l i)[j]?.getD default) then cutF ltB default (l[i]?.getD default) (sortB l i) j else j + 1 := rfl
      have e1 : ((j : Int) + 1 - 1).toNat = j := by omega
      by_cases hw : ((sortB l i)[j]?.getD default).Cents < (l[i]?.getD default).Cents
      · have hw2 : ltB (l[i]?.getD default) ((sortB l i)[j]?.getD default) = true := decide_eq_true hw
        simp [hPl, e1, hw]
        repeat' (first | omega | refine And.intro ?_ ?_ | intro _)
        exact Again.mk j ⟨by omega, by rw [hc, hcs, if_pos hw2]⟩ (by simp) (by first | omega | (simp; omega))
      · have hw2 : ltB (l[i]?.getD default) ((sortB l i)[j]?.getD default) = false := decide_eq_false hw
        have hins : sortB l (i + 1) = (sortB l i).take (j + 1) ++ (l[i]?.getD default) :: (sortB l i).drop (j + 1) := by
          show insK ltB default _ _ = _
          rw [insK, hPl, hc, hcs, if_neg (by simp [hw2])]
        simp [hPl, e1, hw]
        have ht2 : List.take (i - (j + 1)) (List.drop (j + 1) (sortB l i)) = List.drop (j + 1) (sortB l i) := List.take_of_length_le (by simp [hPl])
        have hmin : min (j + 1) i + 1 + (i - (j + 1)) = i + 1 := by omega
        repeat' (first | omega | refine And.intro ?_ ?_ | intro _)
        refine Again.mk (i + 1) (by omega) ?_ (by first | omega | (simp; omega))
        simp [hins, ht2, hmin]
        try trace_state
  · have : i = l.length := by omega
    subst this
    simp [hPl]
theorem c146_ok : c146.ok Try.prog := mkCon_ok fun l hpre => c146_pc l hpre
noncomputable def mWin (l : List TBid) : Int × Int := if l.length = 0 ∨ mAreBids l = false then (0, 0) else if l.length = 1 then (((sortB l l.length)[0]?.getD default).Who, 1) else (((sortB l l.length)[0]?.getD default).Who, ((sortB l l.length)[1]?.getD default).Cents)
theorem bids20 {l : List TBid} (h : mAreBids l = true) : l.length ≤ 20 := by
  simp only [mAreBids, Bool.and_eq_true, decide_eq_true_eq] at h; exact h.1.1
theorem win_at {l : List TBid} (h : mAreBids l = true) (hl : 0 < l.length) : (l.length = 1 → mWin l = (((sortB l l.length)[0]?.getD default).Who, 1)) ∧ (¬ l.length = 1 → mWin l = (((sortB l l.length)[0]?.getD default).Who, ((sortB l l.length)[1]?.getD default).Cents)) := by
  have hn : ¬ (l.length = 0 ∨ mAreBids l = false) := by
    rintro (e | e)
    · omega
    · rw [h] at e; cases e
  rw [mWin, if_neg hn]
  exact ⟨fun e => by rw [if_pos e], fun e => by rw [if_neg e]⟩
/-- loop.example/g03007/impl.Winner -/
noncomputable def c75 : Con := mkCon 75 false (α := (List TBid)) (fun x => (fun (l : List TBid) => [encLTBid l]) x) (fun _ => []) (fun x => (fun (l : List TBid) => l.length ≤ 1073741823) x) (fun x => (fun (l : List TBid) => (.tup [dI (mWin l).1, dI (mWin l).2] : D)) x) (fun x => (fun (l : List TBid) => []) x)
@[simp] theorem c75_f : c75.f = 75 := rfl
@[simp] theorem c75_own : c75.own = false := rfl
theorem c75_inj : ∀ u_ v_ : (List TBid), ((fun x => (fun (l : List TBid) => [encLTBid l]) x) u_).map nz = ((fun x => (fun (l : List TBid) => [encLTBid l]) x) v_).map nz → u_ = v_ := by
  intro u_ v_ h
  obtain l := u_
  obtain l' := v_
  simp [nz_lit, nz1_lit, nz_agg, nz_sl, nz1_sl, encLTBid] at h
  first | (simp [h]; done) | (obtain ⟨⟩ := h; simp_all; done) | simp_all
@[simp] theorem c75_fn (l : List TBid) : c75.fn [.sl false 3 yTBid (ML encTBid l)] [] = some ((fun (l : List TBid) => l.length ≤ 1073741823) l, (fun (l : List TBid) => (.tup [dI (mWin l).1, dI (mWin l).2] : D)) l, (fun (l : List TBid) => []) l) :=
  mkCon_fn (fun x y h _ => c75_inj x y h) (l : (List TBid)) (by simp [nz, nz1, ML_nil, encLTBid]) rfl
@[simp] theorem c75_fn1 (s_l : Nat) (z_l : D) : c75.fn [.sl false s_l z_l []] [] = some ((fun (l : List TBid) => l.length ≤ 1073741823) [], (fun (l : List TBid) => (.tup [dI (mWin l).1, dI (mWin l).2] : D)) [], (fun (l : List TBid) => []) []) :=
  mkCon_fn (fun x y h _ => c75_inj x y h) ([] : (List TBid)) (by simp [nz, nz1, ML_nil, encLTBid]) rfl
theorem c75_pc (l : List TBid) (hpre : l.length ≤ 1073741823) : PCo Try.prog 75 [encLTBid l] (Tab.of []) (.tup [dI (mWin l).1, dI (mWin l).2]) (Tab.of []) := by
  refine pco_of_run [] (E := ⟨[c148, c149], []⟩) (m := false) (base := 0) (Env.ok_cons c148_ok (Env.ok_cons c149_ok Env.ok_nil)) G_ok mix 300 6 Try.func75 (by kernel_rfl) rfl (by kernel_rfl) (by kernel_rfl) rfl ?_
  cases h : mAreBids l with
  | false =>
    have hm : mWin l = (0, 0) := by simp [mWin, h]
    simp [Try.f75, h, hm]
    exact fun _ => by omega
  | true =>
    have h20 := bids20 h
    have hsl : (sortB l l.length).length = l.length := sortK_len l _
    simp [Try.f75, h, hsl]
    have hw := win_at h
    refine ⟨fun _ => by omega, fun e => by simp [mWin, e], fun hne => ?_⟩
    have hl : 0 < l.length := List.length_pos_iff.2 hne
    refine ⟨by omega, fun h1 => ?_, fun h1 => ?_⟩
    · rw [(hw hl).1 (by omega)]; exact ⟨hl, rfl, rfl⟩
    · rw [(hw hl).2 (by omega)]; exact ⟨⟨hl, by omega, by omega⟩, rfl, rfl⟩
theorem c75_ok : c75.ok Try.prog := mkCon_ok fun l hpre => c75_pc l hpre
/-- loop.example/g03007/spec.Winner -/
noncomputable def c73 : Con := mkCon 73 false (α := (List TBid)) (fun x => (fun (l : List TBid) => [encLTBid l]) x) (fun _ => []) (fun x => (fun (l : List TBid) => l.length ≤ 1073741823) x) (fun x => (fun (l : List TBid) => (.tup [dI (mWin l).1, dI (mWin l).2] : D)) x) (fun x => (fun (l : List TBid) => []) x)
@[simp] theorem c73_f : c73.f = 73 := rfl
@[simp] theorem c73_own : c73.own = false := rfl
theorem c73_inj : ∀ u_ v_ : (List TBid), ((fun x => (fun (l : List TBid) => [encLTBid l]) x) u_).map nz = ((fun x => (fun (l : List TBid) => [encLTBid l]) x) v_).map nz → u_ = v_ := by
  intro u_ v_ h
  obtain l := u_
  obtain l' := v_
  simp [nz_lit, nz1_lit, nz_agg, nz_sl, nz1_sl, encLTBid] at h
  first | (simp [h]; done) | (obtain ⟨⟩ := h; simp_all; done) | simp_all
@[simp] theorem c73_fn (l : List TBid) : c73.fn [.sl false 3 yTBid (ML encTBid l)] [] = some ((fun (l : List TBid) => l.length ≤ 1073741823) l, (fun (l : List TBid) => (.tup [dI (mWin l).1, dI (mWin l).2] : D)) l, (fun (l : List TBid) => []) l) :=
  mkCon_fn (fun x y h _ => c73_inj x y h) (l : (List TBid)) (by simp [nz, nz1, ML_nil, encLTBid]) rfl
@[simp] theorem c73_fn1 (s_l : Nat) (z_l : D) : c73.fn [.sl false s_l z_l []] [] = some ((fun (l : List TBid) => l.length ≤ 1073741823) [], (fun (l : List TBid) => (.tup [dI (mWin l).1, dI (mWin l).2] : D)) [], (fun (l : List TBid) => []) []) :=
  mkCon_fn (fun x y h _ => c73_inj x y h) ([] : (List TBid)) (by simp [nz, nz1, ML_nil, encLTBid]) rfl
theorem c73_pc (l : List TBid) (hpre : l.length ≤ 1073741823) : PCo Try.prog 73 [encLTBid l] (Tab.of []) (.tup [dI (mWin l).1, dI (mWin l).2]) (Tab.of []) := by
  refine pco_of_run [] (E := ⟨[c145, c146], []⟩) (m := false) (base := 0) (Env.ok_cons c145_ok (Env.ok_cons c146_ok Env.ok_nil)) G_ok mix 300 6 Try.func73 (by kernel_rfl) rfl (by kernel_rfl) (by kernel_rfl) rfl ?_
  cases h : mAreBids l with
  | false =>
    have hm : mWin l = (0, 0) := by simp [mWin, h]
    simp [Try.f73, h, hm]
    exact fun _ => by omega
  | true =>
    have h20 := bids20 h
    have hsl : (sortB l l.length).length = l.length := sortK_len l _
    simp [Try.f73, h, hsl]
    have hw := win_at h
    refine ⟨fun _ => by omega, fun e => by simp [mWin, e], fun hne => ?_⟩
    have hl : 0 < l.length := List.length_pos_iff.2 hne
    refine ⟨by omega, fun h1 => ?_, fun h1 => ?_⟩
    · rw [(hw hl).1 (by omega)]; exact ⟨hl, rfl, rfl⟩
    · rw [(hw hl).2 (by omega)]; exact ⟨⟨hl, by omega, by omega⟩, rfl, rfl⟩
theorem c73_ok : c73.ok Try.prog := mkCon_ok fun l hpre => c73_pc l hpre
def whoAt (l : List TBid) (i : Nat) : Int := ((sortB l l.length)[i]?.getD default).Who
noncomputable def mHighN (l : List TBid) (n : Int) : Nat := if mAreBids l = false ∨ n < 0 then 0 else min n.toNat l.length
noncomputable def mHigh (l : List TBid) (n : Int) : List Int := gen (whoAt l) (mHighN l n)
/-- loop.example/g03007/impl.HighestBids -/
noncomputable def c78 : Con := mkCon 78 false (α := (List TBid) × Int) (fun x => (fun (l : List TBid) (n : Int) => [encLTBid l, dI n]) x.1 x.2) (fun _ => []) (fun x => (fun (l : List TBid) (n : Int) => l.length ≤ 1073741823) x.1 x.2) (fun x => (fun (l : List TBid) (n : Int) => (.own (0, 1) 1 0 (mHigh l n).length : D)) x.1 x.2) (fun x => (fun (l : List TBid) (n : Int) => [((0, 1), .arr false 1 (dI 0) (ML dI (mHigh l n)))]) x.1 x.2)
@[simp] theorem c78_f : c78.f = 78 := rfl
@[simp] theorem c78_own : c78.own = false := rfl
theorem c78_inj : ∀ u_ v_ : (List TBid) × Int, ((fun x => (fun (l : List TBid) (n : Int) => [encLTBid l, dI n]) x.1 x.2) u_).map nz = ((fun x => (fun (l : List TBid) (n : Int) => [encLTBid l, dI n]) x.1 x.2) v_).map nz → u_ = v_ := by
  intro u_ v_ h
  obtain ⟨l, n⟩ := u_
  obtain ⟨l', n'⟩ := v_
  simp [nz_lit, nz1_lit, nz_agg, nz_sl, nz1_sl, encLTBid] at h
  first | (simp [h]; done) | (obtain ⟨⟩ := h; simp_all; done) | simp_all
@[simp] theorem c78_fn (l : List TBid) (n : Int) : c78.fn [.sl false 3 yTBid (ML encTBid l), .lit (.int .i64 n)] [] = some ((fun (l : List TBid) (n : Int) => l.length ≤ 1073741823) l n, (fun (l : List TBid) (n : Int) => (.own (0, 1) 1 0 (mHigh l n).length : D)) l n, (fun (l : List TBid) (n : Int) => [((0, 1), .arr false 1 (dI 0) (ML dI (mHigh l n)))]) l n) :=
  mkCon_fn (fun x y h _ => c78_inj x y h) ((l, n) : (List TBid) × Int) (by simp [nz, nz1, ML_nil, encLTBid]) rfl
@[simp] theorem c78_fn1 (s_l : Nat) (z_l : D) (n : Int) : c78.fn [.sl false s_l z_l [], .lit (.int .i64 n)] [] = some ((fun (l : List TBid) (n : Int) => l.length ≤ 1073741823) [] n, (fun (l : List TBid) (n : Int) => (.own (0, 1) 1 0 (mHigh l n).length : D)) [] n, (fun (l : List TBid) (n : Int) => [((0, 1), .arr false 1 (dI 0) (ML dI (mHigh l n)))]) [] n) :=
  mkCon_fn (fun x y h _ => c78_inj x y h) (([], n) : (List TBid) × Int) (by simp [nz, nz1, ML_nil, encLTBid]) rfl
theorem c78_pc (l : List TBid) (n : Int) (hpre : l.length ≤ 1073741823) : PCo Try.prog 78 [encLTBid l, dI n] (Tab.of []) (.own (0, 1) 1 0 (mHigh l n).length) (Tab.of [((0, 1), .arr false 1 (dI 0) (ML dI (mHigh l n)))]) := by
  refine pco_of_run [] (E := ⟨[c109, c148, c149], []⟩) (m := false) (base := 0) (Env.ok_cons c109_ok (Env.ok_cons c148_ok (Env.ok_cons c149_ok Env.ok_nil))) G_ok mix 300 6 Try.func78 (by kernel_rfl) rfl (by kernel_rfl) (by kernel_rfl) rfl ?_
  by_cases h : mAreBids l = true ∧ 0 ≤ n
  · obtain ⟨hb, hn⟩ := h
    have h20 := bids20 hb
    have hsl : (sortB l l.length).length = l.length := sortK_len l _
    have hN : mHighN l n = min n.toNat l.length := by
      rw [mHighN, if_neg]
      rintro (e | e)
      · rw [hb] at e; cases e
      · omega
    have hneg : ¬ n < 0 := by omega
    have hmn : min n (l.length : Int) = ((min n.toNat l.length : Nat) : Int) := by omega
    have hm : mHigh l n = gen (whoAt l) (min n.toNat l.length) := by rw [mHigh, hN]
    simp [Try.f78, hb, hneg, hsl, hmn]
    refine ⟨by omega, ⟨h20, by omega⟩, ?_⟩
    refine loop_inv (fun p : Nat => p ≤ min n.toNat l.length) (fun p => [(5, .own (1, 1) 1 0 p), (23, .own (0, 1) 3 0 (min n.toNat l.length)), (24, dI (min n.toNat l.length : Nat)), (25, dI p)]) (fun p => [((0, 1), .arr false 3 yTBid (ML encTBid (sortB l l.length))), ((1, 1), .arr false 1 (dI 0) (ML dI (gen (whoAt l) p)))]) 2 (fun p => min n.toNat l.length - p) 0 400 (by simp) (by simp) (by simp) ?_
    intro p hp
    simp [hsl]
    refine ⟨fun hlt => ?_, fun hge => ?_⟩
    · repeat' (first | omega | refine And.intro ?_ ?_ | intro _)
      all_goals first | omega | exact Again.mk (p + 1) (by omega) (by simp [gen_succ, whoAt]) (by first | omega | (simp; omega)) | trace_state
    · have : p = min n.toNat l.length := by omega
      rw [hm, this]; simp
  · have hN : mHighN l n = 0 := by
      rw [mHighN, if_pos]; by_cases e : mAreBids l = true
      · exact .inr (by rcases Int.lt_or_le n 0 with q | q; exact q; exact absurd ⟨e, q⟩ h)
      · exact .inl (by simpa using e)
    have hm : mHigh l n = [] := by rw [mHigh, hN]; rfl
    simp [Try.f78, hm]
    exact ⟨by omega, fun h1 h2 => absurd ⟨h1, h2⟩ h⟩
theorem c78_ok : c78.ok Try.prog := mkCon_ok fun ⟨l, n⟩ hpre => c78_pc l n hpre
/-- loop.example/g03007/spec.HighestBids -/
noncomputable def c77 : Con := mkCon 77 false (α := (List TBid) × Int) (fun x => (fun (l : List TBid) (n : Int) => [encLTBid l, dI n]) x.1 x.2) (fun _ => []) (fun x => (fun (l : List TBid) (n : Int) => l.length ≤ 1073741823) x.1 x.2) (fun x => (fun (l : List TBid) (n : Int) => (.own (0, 1) 1 0 (mHigh l n).length : D)) x.1 x.2) (fun x => (fun (l : List TBid) (n : Int) => [((0, 1), .arr false 1 (dI 0) (ML dI (mHigh l n)))]) x.1 x.2)
@[simp] theorem c77_f : c77.f = 77 := rfl
@[simp] theorem c77_own : c77.own = false := rfl
theorem c77_inj : ∀ u_ v_ : (List TBid) × Int, ((fun x => (fun (l : List TBid) (n : Int) => [encLTBid l, dI n]) x.1 x.2) u_).map nz = ((fun x => (fun (l : List TBid) (n : Int) => [encLTBid l, dI n]) x.1 x.2) v_).map nz → u_ = v_ := by
  intro u_ v_ h
  obtain ⟨l, n⟩ := u_
  obtain ⟨l', n'⟩ := v_
  simp [nz_lit, nz1_lit, nz_agg, nz_sl, nz1_sl, encLTBid] at h
  first | (simp [h]; done) | (obtain ⟨⟩ := h; simp_all; done) | simp_all
@[simp] theorem c77_fn (l : List TBid) (n : Int) : c77.fn [.sl false 3 yTBid (ML encTBid l), .lit (.int .i64 n)] [] = some ((fun (l : List TBid) (n : Int) => l.length ≤ 1073741823) l n, (fun (l : List TBid) (n : Int) => (.own (0, 1) 1 0 (mHigh l n).length : D)) l n, (fun (l : List TBid) (n : Int) => [((0, 1), .arr false 1 (dI 0) (ML dI (mHigh l n)))]) l n) :=
  mkCon_fn (fun x y h _ => c77_inj x y h) ((l, n) : (List TBid) × Int) (by simp [nz, nz1, ML_nil, encLTBid]) rfl
@[simp] theorem c77_fn1 (s_l : Nat) (z_l : D) (n : Int) : c77.fn [.sl false s_l z_l [], .lit (.int .i64 n)] [] = some ((fun (l : List TBid) (n : Int) => l.length ≤ 1073741823) [] n, (fun (l : List TBid) (n : Int) => (.own (0, 1) 1 0 (mHigh l n).length : D)) [] n, (fun (l : List TBid) (n : Int) => [((0, 1), .arr false 1 (dI 0) (ML dI (mHigh l n)))]) [] n) :=
  mkCon_fn (fun x y h _ => c77_inj x y h) (([], n) : (List TBid) × Int) (by simp [nz, nz1, ML_nil, encLTBid]) rfl
theorem c77_pc (l : List TBid) (n : Int) (hpre : l.length ≤ 1073741823) : PCo Try.prog 77 [encLTBid l, dI n] (Tab.of []) (.own (0, 1) 1 0 (mHigh l n).length) (Tab.of [((0, 1), .arr false 1 (dI 0) (ML dI (mHigh l n)))]) := by
  refine pco_of_run [] (E := ⟨[c145, c146], []⟩) (m := false) (base := 0) (Env.ok_cons c145_ok (Env.ok_cons c146_ok Env.ok_nil)) G_ok mix 300 6 Try.func77 (by kernel_rfl) rfl (by kernel_rfl) (by kernel_rfl) rfl ?_
  simp [Try.f77]
  have hsl : (sortB l l.length).length = l.length := sortK_len l _
  refine ⟨by omega, ?_⟩
  refine loop_inv (fun i : Nat => i ≤ mHighN l n) (fun i => [(0, encLTBid l), (1, dI n), (5, .own (1, 1) 1 0 i), (6, .own (0, 1) 3 0 l.length), (7, dI i)]) (fun i => [((0, 1), .arr false 3 yTBid (ML encTBid (sortB l l.length))), ((1, 1), .arr false 1 (dI 0) (ML dI (gen (whoAt l) i)))]) 2 (fun i => mHighN l n - i) 0 400 (by simp) (by simp) (by simp) ?_
  intro i hi
  by_cases hb : mAreBids l = true
  · have hN : mHighN l n = if n < 0 then 0 else min n.toNat l.length := by simp only [mHighN, hb]; simp
    simp [hb, hsl]
    refine ⟨fun _ _ => by omega, fun h1 h2 => ?_, fun h1 => ?_⟩
    · have hi2 : i + 1 ≤ mHighN l n := by rw [hN, if_neg (by omega)]; omega
      repeat' (first | omega | refine And.intro ?_ ?_ | intro _)
      all_goals first | omega | exact Again.mk (i + 1) hi2 (by simp [gen_succ, whoAt]) (by first | omega | (simp; omega)) | trace_state
    · have hi2 : i = mHighN l n := by
        rw [hN] at hi ⊢; split at hi <;> rename_i hs <;> simp only [hs, if_true, if_false]
        · omega
        · by_cases h2 : i < l.length
          · have := h1 h2; omega
          · omega
      simp [mHigh, ← hi2]
  · have hb2 : mAreBids l = false := by simpa using hb
    have hN : mHighN l n = 0 := by rw [mHighN, if_pos (.inl hb2)]
    have hi0 : i = 0 := by omega
    subst hi0
    simp [hb2, mHigh, hN]
    try exact fun _ _ => by omega
theorem c77_ok : c77.ok Try.prog := mkCon_ok fun ⟨l, n⟩ hpre => c77_pc l n hpre

end Go.Proofs.Ytnkggfhgmdbfpaa
