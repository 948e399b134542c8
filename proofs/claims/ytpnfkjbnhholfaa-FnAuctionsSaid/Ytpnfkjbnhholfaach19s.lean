/- Contracts of the functions that the laws run. -/
import Derived.Test.Ytpnfkjbnhholfaach19
import Derived.Test.Ytpnfkjbnhholfaasortk
import Derived.Test.YtpnfkjbnhholfaaEngB
namespace Go.Proofs.Ytpnfkjbnhholfaa
open Go Go.Eng
set_option linter.unusedSimpArgs false
set_option linter.unusedVariables false
set_option maxRecDepth 10000
set_option maxHeartbeats 1000000
/-- slices.Clone[[]loop.example/g03007/impl.Bi -/
noncomputable def c137 : Con := mkCon 137 false (α := (List TBid)) (fun x => (fun (l : List TBid) => [encLTBid l]) x) (fun _ => []) (fun x => (fun (l : List TBid) => l.length ≤ 1073741824) x) (fun x => (fun (l : List TBid) => (.own (0, 1) 3 0 l.length : D)) x) (fun x => (fun (l : List TBid) => [((0, 1), .arr false 3 yTBid (ML encTBid l))]) x)
@[simp] theorem c137_f : c137.f = 137 := rfl
@[simp] theorem c137_own : c137.own = false := rfl
theorem c137_inj : ∀ u_ v_ : (List TBid), ((fun x => (fun (l : List TBid) => [encLTBid l]) x) u_).map nz = ((fun x => (fun (l : List TBid) => [encLTBid l]) x) v_).map nz → u_ = v_ := by
  intro u_ v_ h
  obtain l := u_
  obtain l' := v_
  simp [nz_lit, nz1_lit, nz_agg, nz_sl, nz1_sl, encLTBid] at h
  first | (simp [h]; done) | (obtain ⟨⟩ := h; simp_all; done) | simp_all
@[simp] theorem c137_fn (l : List TBid) : c137.fn [.sl false 3 yTBid (ML encTBid l)] [] = some ((fun (l : List TBid) => l.length ≤ 1073741824) l, (fun (l : List TBid) => (.own (0, 1) 3 0 l.length : D)) l, (fun (l : List TBid) => [((0, 1), .arr false 3 yTBid (ML encTBid l))]) l) :=
  mkCon_fn (fun x y h _ => c137_inj x y h) (l : (List TBid)) (by simp [nz, nz1, ML_nil, encLTBid]) rfl
@[simp] theorem c137_fn1 (s_l : Nat) (z_l : D) : c137.fn [.sl false s_l z_l []] [] = some ((fun (l : List TBid) => l.length ≤ 1073741824) [], (fun (l : List TBid) => (.own (0, 1) 3 0 l.length : D)) [], (fun (l : List TBid) => [((0, 1), .arr false 3 yTBid (ML encTBid l))]) []) :=
  mkCon_fn (fun x y h _ => c137_inj x y h) ([] : (List TBid)) (by simp [nz, nz1, ML_nil, encLTBid]) rfl
theorem c137_pc (l : List TBid) (hpre : l.length ≤ 1073741824) : PCo Try.prog 137 [encLTBid l] (Tab.of []) (.own (0, 1) 3 0 l.length) (Tab.of [((0, 1), .arr false 3 yTBid (ML encTBid l))]) := by
  by_cases hl : l = []
  · subst hl
    show PCo Try.prog 137 [.sl false 3 yTBid []] Tab.nil (.own (0, 1) 3 0 0) (Tab.of [((0, 1), .arr false 3 yTBid [])])
    refine pco_slice fun a cap => ?_
    cases a with
    | none =>
      refine pc_ghost (s' := 0) (z' := .any) ?_
      refine pco_of_run [] (tin := []) (E := ⟨[], [], []⟩) (m := false) (base := 0) Env.ok_nil G_ok mix 300 6 Try.func137 (by kernel_rfl) rfl (by kernel_rfl) (by kernel_rfl) rfl ?_
      simp [Try.f137]
    | some q =>
      refine pco_of_run [] (tin := []) (E := ⟨[], [], []⟩) (m := false) (base := 0) Env.ok_nil G_ok mix 300 6 Try.func137 (by kernel_rfl) rfl (by kernel_rfl) (by kernel_rfl) rfl ?_
      simp [Try.f137]
  · refine pco_of_run [] (E := ⟨[], [], []⟩) (m := false) (base := 0) Env.ok_nil G_ok mix 300 6 Try.func137 (by kernel_rfl) rfl (by kernel_rfl) (by kernel_rfl) rfl ?_
    simp [Try.f137, -nilS, nilS_ML hl]
    omega
theorem c137_ok : c137.ok Try.prog := mkCon_ok fun l hpre => c137_pc l hpre
def ltB (x y : TBid) : Bool := decide (y.Cents < x.Cents)
abbrev sortB (l : List TBid) (p : Nat) : List TBid := sortK ltB default l p
/-- (loop.example/g03007/impl.byHeight).Len -/
noncomputable def c275 : Con := mkCon 275 false (α := (List TBid)) (fun x => (fun (l : List TBid) => [encLTBid l]) x) (fun _ => []) (fun x => (fun (l : List TBid) => True) x) (fun x => (fun (l : List TBid) => (dI l.length : D)) x) (fun x => (fun (l : List TBid) => []) x)
@[simp] theorem c275_f : c275.f = 275 := rfl
@[simp] theorem c275_own : c275.own = false := rfl
theorem c275_inj : ∀ u_ v_ : (List TBid), ((fun x => (fun (l : List TBid) => [encLTBid l]) x) u_).map nz = ((fun x => (fun (l : List TBid) => [encLTBid l]) x) v_).map nz → u_ = v_ := by
  intro u_ v_ h
  obtain l := u_
  obtain l' := v_
  simp [nz_lit, nz1_lit, nz_agg, nz_sl, nz1_sl, encLTBid] at h
  first | (simp [h]; done) | (obtain ⟨⟩ := h; simp_all; done) | simp_all
@[simp] theorem c275_fn (l : List TBid) : c275.fn [.sl false 3 yTBid (ML encTBid l)] [] = some ((fun (l : List TBid) => True) l, (fun (l : List TBid) => (dI l.length : D)) l, (fun (l : List TBid) => []) l) :=
  mkCon_fn (fun x y h _ => c275_inj x y h) (l : (List TBid)) (by simp [nz, nz1, ML_nil, encLTBid]) rfl
@[simp] theorem c275_fn1 (s_l : Nat) (z_l : D) : c275.fn [.sl false s_l z_l []] [] = some ((fun (l : List TBid) => True) [], (fun (l : List TBid) => (dI l.length : D)) [], (fun (l : List TBid) => []) []) :=
  mkCon_fn (fun x y h _ => c275_inj x y h) ([] : (List TBid)) (by simp [nz, nz1, ML_nil, encLTBid]) rfl
theorem c275_pc (l : List TBid) : PCo Try.prog 275 [encLTBid l] (Tab.of []) (dI l.length) (Tab.of []) := by
  refine pco_of_run [] (E := ⟨[], [], []⟩) (m := false) (base := 0) Env.ok_nil G_ok mix 300 6 Try.func275 (by kernel_rfl) rfl (by kernel_rfl) (by kernel_rfl) rfl ?_
  simp [Try.f275]
  all_goals first | omega | (rw [Bool.eq_iff_iff]; simp; omega) | grind
theorem c275_ok : c275.ok Try.prog := mkCon_ok fun l hpre => c275_pc l
/-- (loop.example/g03007/impl.byHeight).Less -/
noncomputable def c276 : Con := mkCon 276 false (α := (List TBid) × Int × Int) (fun x => (fun (l : List TBid) (i : Int) (j : Int) => [encLTBid l, dI i, dI j]) x.1 x.2.1 x.2.2) (fun _ => []) (fun x => (fun (l : List TBid) (i : Int) (j : Int) => 0 ≤ i ∧ i < l.length ∧ 0 ≤ j ∧ j < l.length) x.1 x.2.1 x.2.2) (fun x => (fun (l : List TBid) (i : Int) (j : Int) => (dB (ltB (l[i.toNat]?.getD default) (l[j.toNat]?.getD default)) : D)) x.1 x.2.1 x.2.2) (fun x => (fun (l : List TBid) (i : Int) (j : Int) => []) x.1 x.2.1 x.2.2)
@[simp] theorem c276_f : c276.f = 276 := rfl
@[simp] theorem c276_own : c276.own = false := rfl
theorem c276_inj : ∀ u_ v_ : (List TBid) × Int × Int, ((fun x => (fun (l : List TBid) (i : Int) (j : Int) => [encLTBid l, dI i, dI j]) x.1 x.2.1 x.2.2) u_).map nz = ((fun x => (fun (l : List TBid) (i : Int) (j : Int) => [encLTBid l, dI i, dI j]) x.1 x.2.1 x.2.2) v_).map nz → u_ = v_ := by
  intro u_ v_ h
  obtain ⟨l, i, j⟩ := u_
  obtain ⟨l', i', j'⟩ := v_
  simp [nz_lit, nz1_lit, nz_agg, nz_sl, nz1_sl, encLTBid] at h
  first | (simp [h]; done) | (obtain ⟨⟩ := h; simp_all; done) | simp_all
@[simp] theorem c276_fn (l : List TBid) (i : Int) (j : Int) : c276.fn [.sl false 3 yTBid (ML encTBid l), .lit (.int .i64 i), .lit (.int .i64 j)] [] = some ((fun (l : List TBid) (i : Int) (j : Int) => 0 ≤ i ∧ i < l.length ∧ 0 ≤ j ∧ j < l.length) l i j, (fun (l : List TBid) (i : Int) (j : Int) => (dB (ltB (l[i.toNat]?.getD default) (l[j.toNat]?.getD default)) : D)) l i j, (fun (l : List TBid) (i : Int) (j : Int) => []) l i j) :=
  mkCon_fn (fun x y h _ => c276_inj x y h) ((l, i, j) : (List TBid) × Int × Int) (by simp [nz, nz1, ML_nil, encLTBid]) rfl
@[simp] theorem c276_fn1 (s_l : Nat) (z_l : D) (i : Int) (j : Int) : c276.fn [.sl false s_l z_l [], .lit (.int .i64 i), .lit (.int .i64 j)] [] = some ((fun (l : List TBid) (i : Int) (j : Int) => 0 ≤ i ∧ i < l.length ∧ 0 ≤ j ∧ j < l.length) [] i j, (fun (l : List TBid) (i : Int) (j : Int) => (dB (ltB (l[i.toNat]?.getD default) (l[j.toNat]?.getD default)) : D)) [] i j, (fun (l : List TBid) (i : Int) (j : Int) => []) [] i j) :=
  mkCon_fn (fun x y h _ => c276_inj x y h) (([], i, j) : (List TBid) × Int × Int) (by simp [nz, nz1, ML_nil, encLTBid]) rfl
theorem c276_pc (l : List TBid) (i : Int) (j : Int) (hpre : 0 ≤ i ∧ i < l.length ∧ 0 ≤ j ∧ j < l.length) : PCo Try.prog 276 [encLTBid l, dI i, dI j] (Tab.of []) (dB (ltB (l[i.toNat]?.getD default) (l[j.toNat]?.getD default))) (Tab.of []) := by
  refine pco_of_run [] (E := ⟨[], [], []⟩) (m := false) (base := 0) Env.ok_nil G_ok mix 300 6 Try.func276 (by kernel_rfl) rfl (by kernel_rfl) (by kernel_rfl) rfl ?_
  simp [Try.f276]
  simp [ltB]
  omega
theorem c276_ok : c276.ok Try.prog := mkCon_ok fun ⟨l, i, j⟩ hpre => c276_pc l i j hpre
/-- (loop.example/g03007/impl.byHeight).Swap -/
noncomputable def c277 : Con := mkCon 277 true (α := (List TBid) × Int × Int) (fun x => (fun (l : List TBid) (i : Int) (j : Int) => ([.own (0, 0) 3 0 l.length, dI i, dI j] : List D)) x.1 x.2.1 x.2.2) (fun x => (fun (l : List TBid) (i : Int) (j : Int) => ([((0, 0), .arr false 3 yTBid (ML encTBid l))] : List (Nm × OO))) x.1 x.2.1 x.2.2) (fun x => (fun (l : List TBid) (i : Int) (j : Int) => 0 ≤ i ∧ i < l.length ∧ 0 ≤ j ∧ j < l.length) x.1 x.2.1 x.2.2) (fun x => (fun (l : List TBid) (i : Int) (j : Int) => (.tup [] : D)) x.1 x.2.1 x.2.2) (fun x => (fun (l : List TBid) (i : Int) (j : Int) => ([((0, 0), .arr false 3 yTBid (ML encTBid ((l.set i.toNat (l[j.toNat]?.getD default)).set j.toNat (l[i.toNat]?.getD default))))] : List (Nm × OO))) x.1 x.2.1 x.2.2)
@[simp] theorem c277_f : c277.f = 277 := rfl
@[simp] theorem c277_own : c277.own = true := rfl
theorem c277_inj : ∀ u_ v_ : (List TBid) × Int × Int, ((fun x => (fun (l : List TBid) (i : Int) (j : Int) => ([.own (0, 0) 3 0 l.length, dI i, dI j] : List D)) x.1 x.2.1 x.2.2) u_).map nz = ((fun x => (fun (l : List TBid) (i : Int) (j : Int) => ([.own (0, 0) 3 0 l.length, dI i, dI j] : List D)) x.1 x.2.1 x.2.2) v_).map nz → (fun x => (fun (l : List TBid) (i : Int) (j : Int) => ([((0, 0), .arr false 3 yTBid (ML encTBid l))] : List (Nm × OO))) x.1 x.2.1 x.2.2) u_ = (fun x => (fun (l : List TBid) (i : Int) (j : Int) => ([((0, 0), .arr false 3 yTBid (ML encTBid l))] : List (Nm × OO))) x.1 x.2.1 x.2.2) v_ → u_ = v_ := by
  intro u_ v_ h h2_
  obtain ⟨l, i, j⟩ := u_
  obtain ⟨l', i', j'⟩ := v_
  simp [nz_lit, nz1_lit, nz_agg, nz_sl, nz1_sl, nz_sx, nz_el, nz1_el, nz_own, nz1_own, nz_ptr, nz_fn, nz_iface] at h h2_
  first | (simp [h, h2_]; done) | (obtain ⟨h3_, h4_⟩ := List.append_inj h2_ h.1; simp_all; done) | simp_all | grind
@[simp] theorem c277_fn (l : List TBid) (i : Int) (j : Int) : c277.fn ([.own (0, 0) 3 0 l.length, dI i, dI j]) ([((0, 0), .arr false 3 yTBid (ML encTBid l))]) = some (0 ≤ i ∧ i < l.length ∧ 0 ≤ j ∧ j < l.length, .tup [], [((0, 0), .arr false 3 yTBid (ML encTBid ((l.set i.toNat (l[j.toNat]?.getD default)).set j.toNat (l[i.toNat]?.getD default))))]) :=
  mkCon_fn c277_inj ((l, i, j) : (List TBid) × Int × Int) rfl rfl
theorem c277_pc (l : List TBid) (i : Int) (j : Int) (hpre : 0 ≤ i ∧ i < l.length ∧ 0 ≤ j ∧ j < l.length) : PCo Try.prog 277 ([.own (0, 0) 3 0 l.length, dI i, dI j]) (Tab.of ([((0, 0), .arr false 3 yTBid (ML encTBid l))])) (.tup []) (Tab.of ([((0, 0), .arr false 3 yTBid (ML encTBid ((l.set i.toNat (l[j.toNat]?.getD default)).set j.toNat (l[i.toNat]?.getD default))))])) := by
  refine pco_of_run [] (E := ⟨[], [], []⟩) (m := false) (base := 0) Env.ok_nil G_ok mix 300 6 Try.func277 (by kernel_rfl) rfl (by kernel_rfl) (by kernel_rfl) rfl ?_
  simp [Try.f277]
  omega
theorem c277_ok : c277.ok Try.prog := mkCon_ok fun ⟨l, i, j⟩ hpre => c277_pc l i j hpre
/-- sort.insertionSort -/
noncomputable def c236 : Con := mkCon 236 true (α := (List TBid) × Int × Int) (fun x => (fun (l : List TBid) (a : Int) (b : Int) => ([.iface 241 (.own (0, 0) 3 0 l.length), dI a, dI b] : List D)) x.1 x.2.1 x.2.2) (fun x => (fun (l : List TBid) (a : Int) (b : Int) => ([((0, 0), .arr false 3 yTBid (ML encTBid l))] : List (Nm × OO))) x.1 x.2.1 x.2.2) (fun x => (fun (l : List TBid) (a : Int) (b : Int) => l.length ≤ 20 ∧ 0 ≤ a ∧ a ≤ 20 ∧ b = l.length ∧ (a = 0 ∨ b ≤ a)) x.1 x.2.1 x.2.2) (fun x => (fun (l : List TBid) (a : Int) (b : Int) => (.tup [] : D)) x.1 x.2.1 x.2.2) (fun x => (fun (l : List TBid) (a : Int) (b : Int) => ([((0, 0), .arr false 3 yTBid (ML encTBid (if a = 0 then sortB l l.length else l)))] : List (Nm × OO))) x.1 x.2.1 x.2.2)
@[simp] theorem c236_f : c236.f = 236 := rfl
@[simp] theorem c236_own : c236.own = true := rfl
theorem c236_inj : ∀ u_ v_ : (List TBid) × Int × Int, ((fun x => (fun (l : List TBid) (a : Int) (b : Int) => ([.iface 241 (.own (0, 0) 3 0 l.length), dI a, dI b] : List D)) x.1 x.2.1 x.2.2) u_).map nz = ((fun x => (fun (l : List TBid) (a : Int) (b : Int) => ([.iface 241 (.own (0, 0) 3 0 l.length), dI a, dI b] : List D)) x.1 x.2.1 x.2.2) v_).map nz → (fun x => (fun (l : List TBid) (a : Int) (b : Int) => ([((0, 0), .arr false 3 yTBid (ML encTBid l))] : List (Nm × OO))) x.1 x.2.1 x.2.2) u_ = (fun x => (fun (l : List TBid) (a : Int) (b : Int) => ([((0, 0), .arr false 3 yTBid (ML encTBid l))] : List (Nm × OO))) x.1 x.2.1 x.2.2) v_ → u_ = v_ := by
  intro u_ v_ h h2_
  obtain ⟨l, a, b⟩ := u_
  obtain ⟨l', a', b'⟩ := v_
  simp [nz_lit, nz1_lit, nz_agg, nz_sl, nz1_sl, nz_sx, nz_el, nz1_el, nz_own, nz1_own, nz_ptr, nz_fn, nz_iface] at h h2_
  first | (simp [h, h2_]; done) | (obtain ⟨h3_, h4_⟩ := List.append_inj h2_ h.1; simp_all; done) | simp_all | grind
@[simp] theorem c236_fn (l : List TBid) (a : Int) (b : Int) : c236.fn ([.iface 241 (.own (0, 0) 3 0 l.length), dI a, dI b]) ([((0, 0), .arr false 3 yTBid (ML encTBid l))]) = some (l.length ≤ 20 ∧ 0 ≤ a ∧ a ≤ 20 ∧ b = l.length ∧ (a = 0 ∨ b ≤ a), .tup [], [((0, 0), .arr false 3 yTBid (ML encTBid (if a = 0 then sortB l l.length else l)))]) :=
  mkCon_fn c236_inj ((l, a, b) : (List TBid) × Int × Int) rfl rfl
theorem c236_pc (l : List TBid) (a : Int) (b : Int) (hpre : l.length ≤ 20 ∧ 0 ≤ a ∧ a ≤ 20 ∧ b = l.length ∧ (a = 0 ∨ b ≤ a)) : PCo Try.prog 236 ([.iface 241 (.own (0, 0) 3 0 l.length), dI a, dI b]) (Tab.of ([((0, 0), .arr false 3 yTBid (ML encTBid l))])) (.tup []) (Tab.of ([((0, 0), .arr false 3 yTBid (ML encTBid (if a = 0 then sortB l l.length else l)))])) := by
  refine pco_of_run [] (E := ⟨[c276, c277], [(241, "Less", 276), (241, "Swap", 277)], []⟩) (m := false) (base := 0) (Env.ok_cons c276_ok (Env.ok_cons c277_ok (Env.ok_me (meth_of (by kernel_rfl) (by kernel_rfl)) (Env.ok_me (meth_of (by kernel_rfl) (by kernel_rfl)) Env.ok_nil)))) G_ok mix 300 6 Try.func236 (by kernel_rfl) rfl (by kernel_rfl) (by kernel_rfl) rfl ?_
  simp [Try.f236]
  obtain ⟨hp, ha, ha2, hb, hab⟩ := hpre
  subst hb
  refine ⟨by omega, ?_⟩
  by_cases h0 : a = 0 ∧ 0 < l.length
  · obtain ⟨h0, hl⟩ := h0
    subst h0
    have hstart : l = sortB l 1 ++ l.tail := by have := sortK_one (lt := ltB) (d := default) l hl; simpa using this.symm
    refine loop_inv (fun i : Nat => 1 ≤ i ∧ i ≤ l.length) (fun i => [(0, .iface 241 (.own (0, 0) 3 0 l.length)), (1, dI 0), (2, dI l.length), (6, dI i)]) (fun i => [((0, 0), .arr false 3 yTBid (ML encTBid (sortB l i ++ l.drop i)))]) 2 (fun i => l.length - i) 1 400 (by simp) (by simp; omega) (by simp; exact hstart) ?_
    intro i ⟨hi1, hi⟩
    simp
    refine ⟨fun hlt => ?_, fun hge => ?_⟩
    · have hPl : (sortB l i).length = i := sortK_len l i
      have hst := rowK_start (lt := ltB) (d := default) l hlt
      refine loop_inv (fun j : Nat => j ≤ i ∧ cutF ltB default (l[i]?.getD default) (sortB l i) i = cutF ltB default (l[i]?.getD default) (sortB l i) j) (fun j => [(0, .iface 241 (.own (0, 0) 3 0 l.length)), (1, dI 0), (2, dI l.length), (6, dI i), (7, dI j)]) (fun j => [((0, 0), .arr false 3 yTBid (ML encTBid (rowK (l[i]?.getD default) (sortB l i) (l.drop (i + 1)) j)))]) 2 (fun j => j) i 400 (by simp) (by simp) (by simp [← hst]) ?_
      intro j ⟨hj, hc⟩
      have hrl : (rowK (l[i]?.getD default) (sortB l i) (l.drop (i + 1)) j).length = l.length := by
        rw [rowK_len _ _ _ (by omega), hPl]; simp; omega
      have hpl : preL l.length (rowK (l[i]?.getD default) (sortB l i) (l.drop (i + 1)) j) = rowK (l[i]?.getD default) (sortB l i) (l.drop (i + 1)) j := preL_full (by omega)
      cases j with
      | zero =>
        have hstop := rowK_stop (lt := ltB) (d := default) l (i := i) (j := 0) (by rw [hc]; rfl)
        simp
        refine ⟨by omega, Again.mk (i + 1) ⟨by omega, by omega⟩ (by simp [hstop]) (by first | omega | (simp; omega))⟩
      | succ j =>
        have h1 := rowK_at (d := default) (l[i]?.getD default) (sortB l i) (l.drop (i + 1)) (j := j + 1) (by omega)
        have h2 := rowK_before (d := default) (l[i]?.getD default) (sortB l i) (l.drop (i + 1)) (j := j) (by omega)
        have hsw : ∀ a b : Int, c277.fn [.own (0, 0) 3 0 l.length, dI a, dI b] [((0, 0), .arr false 3 yTBid (ML encTBid (rowK (l[i]?.getD default) (sortB l i) (l.drop (i + 1)) (j + 1))))] = some ((0 ≤ a ∧ a < l.length ∧ 0 ≤ b ∧ b < l.length), .tup [], [((0, 0), .arr false 3 yTBid (ML encTBid (((rowK (l[i]?.getD default) (sortB l i) (l.drop (i + 1)) (j + 1)).set a.toNat ((rowK (l[i]?.getD default) (sortB l i) (l.drop (i + 1)) (j + 1))[b.toNat]?.getD default)).set b.toNat ((rowK (l[i]?.getD default) (sortB l i) (l.drop (i + 1)) (j + 1))[a.toNat]?.getD default))))]) := fun a b => by
          have h := c277_fn (l := rowK (l[i]?.getD default) (sortB l i) (l.drop (i + 1)) (j + 1)) (i := a) (j := b)
          rw [hrl] at h; exact h
        have hset := rowK_swap (d := default) (l[i]?.getD default) (sortB l i) (l.drop (i + 1)) (j := j) (by omega)
        have e1 : ((j : Int) + 1 - 1).toNat = j := by omega
        have e2 : ((j : Int) + 1).toNat = j + 1 := by omega
        simp [hpl, hsw, e1, e2, h1, h2, hset, hrl]
        have hcs : cutF ltB default (l[i]?.getD default) (sortB l i) (j + 1) = if ltB (l[i]?.getD default) ((sortB l i)[j]?.getD default) then cutF ltB default (l[i]?.getD default) (sortB l i) j else j + 1 := rfl
        refine ⟨by omega, fun hw => ⟨by omega, by omega, Again.mk j ⟨by omega, by rw [hc, hcs, if_pos hw]⟩ (by simp) (by first | omega | (simp; omega))⟩, fun hw => ⟨by omega, ?_⟩⟩
        have hstop := rowK_stop (lt := ltB) (d := default) l (i := i) (j := j + 1) (by rw [hc, hcs, if_neg (by simp [hw])])
        exact Again.mk (i + 1) ⟨by omega, by omega⟩ (by simp [hstop]) (by first | omega | (simp; omega))
    · have : i = l.length := by omega
      subst this
      simp
  · have hend : ¬ a + 1 < l.length := by omega
    have hrow : (if a = 0 then sortB l l.length else l) = l := by
      split
      · have : l = [] := List.eq_nil_of_length_eq_zero (by omega)
        subst this; rfl
      · rfl
    refine loop_inv (fun _ : Unit => True) (fun _ => [(0, .iface 241 (.own (0, 0) 3 0 l.length)), (1, dI a), (2, dI l.length), (6, dI (a + 1))]) (fun _ => [((0, 0), .arr false 3 yTBid (ML encTBid l))]) 2 (fun _ => 0) () 400 (by simp) (by simp) (by simp) ?_
    intro u _
    simp [hend, hrow]
theorem c236_ok : c236.ok Try.prog := mkCon_ok fun ⟨l, a, b⟩ hpre => c236_pc l a b hpre
/-- sort.stable -/
noncomputable def c219 : Con := mkCon 219 true (α := (List TBid) × Int) (fun x => (fun (l : List TBid) (n : Int) => ([.iface 241 (.own (0, 0) 3 0 l.length), dI n] : List D)) x.1 x.2) (fun x => (fun (l : List TBid) (n : Int) => ([((0, 0), .arr false 3 yTBid (ML encTBid l))] : List (Nm × OO))) x.1 x.2) (fun x => (fun (l : List TBid) (n : Int) => l.length ≤ 20 ∧ n = l.length) x.1 x.2) (fun x => (fun (l : List TBid) (n : Int) => (.tup [] : D)) x.1 x.2) (fun x => (fun (l : List TBid) (n : Int) => ([((0, 0), .arr false 3 yTBid (ML encTBid (sortB l l.length)))] : List (Nm × OO))) x.1 x.2)
@[simp] theorem c219_f : c219.f = 219 := rfl
@[simp] theorem c219_own : c219.own = true := rfl
theorem c219_inj : ∀ u_ v_ : (List TBid) × Int, ((fun x => (fun (l : List TBid) (n : Int) => ([.iface 241 (.own (0, 0) 3 0 l.length), dI n] : List D)) x.1 x.2) u_).map nz = ((fun x => (fun (l : List TBid) (n : Int) => ([.iface 241 (.own (0, 0) 3 0 l.length), dI n] : List D)) x.1 x.2) v_).map nz → (fun x => (fun (l : List TBid) (n : Int) => ([((0, 0), .arr false 3 yTBid (ML encTBid l))] : List (Nm × OO))) x.1 x.2) u_ = (fun x => (fun (l : List TBid) (n : Int) => ([((0, 0), .arr false 3 yTBid (ML encTBid l))] : List (Nm × OO))) x.1 x.2) v_ → u_ = v_ := by
  intro u_ v_ h h2_
  obtain ⟨l, n⟩ := u_
  obtain ⟨l', n'⟩ := v_
  simp [nz_lit, nz1_lit, nz_agg, nz_sl, nz1_sl, nz_sx, nz_el, nz1_el, nz_own, nz1_own, nz_ptr, nz_fn, nz_iface] at h h2_
  first | (simp [h, h2_]; done) | (obtain ⟨h3_, h4_⟩ := List.append_inj h2_ h.1; simp_all; done) | simp_all | grind
@[simp] theorem c219_fn (l : List TBid) (n : Int) : c219.fn ([.iface 241 (.own (0, 0) 3 0 l.length), dI n]) ([((0, 0), .arr false 3 yTBid (ML encTBid l))]) = some (l.length ≤ 20 ∧ n = l.length, .tup [], [((0, 0), .arr false 3 yTBid (ML encTBid (sortB l l.length)))]) :=
  mkCon_fn c219_inj ((l, n) : (List TBid) × Int) rfl rfl
theorem c219_pc (l : List TBid) (n : Int) (hpre : l.length ≤ 20 ∧ n = l.length) : PCo Try.prog 219 ([.iface 241 (.own (0, 0) 3 0 l.length), dI n]) (Tab.of ([((0, 0), .arr false 3 yTBid (ML encTBid l))])) (.tup []) (Tab.of ([((0, 0), .arr false 3 yTBid (ML encTBid (sortB l l.length)))])) := by
  refine pco_of_run [] (E := ⟨[c236, c236], [], []⟩) (m := false) (base := 0) (Env.ok_cons c236_ok (Env.ok_cons c236_ok Env.ok_nil)) G_ok mix 300 6 Try.func219 (by kernel_rfl) rfl (by kernel_rfl) (by kernel_rfl) rfl ?_
  simp [Try.f219]
  obtain ⟨hp, hn⟩ := hpre
  subst hn
  have hsl : (sortB l l.length).length = l.length := sortK_len l _
  have hfn : ∀ a b : Int, c236.fn [.iface 241 (.own (0, 0) 3 0 l.length), dI a, dI b] [((0, 0), .arr false 3 yTBid (ML encTBid (sortB l l.length)))] = some (l.length ≤ 20 ∧ 0 ≤ a ∧ a ≤ 20 ∧ b = l.length ∧ (a = 0 ∨ b ≤ a), .tup [], [((0, 0), .arr false 3 yTBid (ML encTBid (if a = 0 then sortB (sortB l l.length) l.length else sortB l l.length)))]) := fun a b => by
    have h := c236_fn (l := sortB l l.length) (a := a) (b := b)
    rw [hsl] at h; exact h
  have hno : ¬ (20 : Int) < l.length := by omega
  refine loop_inv (fun k : Nat => k = 0 ∨ (k = 1 ∧ l.length = 20)) (fun k => [(0, .iface 241 (.own (0, 0) 3 0 l.length)), (1, dI l.length), (4, dI 20), (5, dI (20 * k)), (6, dI (20 + 20 * k))]) (fun k => [((0, 0), .arr false 3 yTBid (ML encTBid (if k = 0 then l else sortB l l.length)))]) 2 (fun k => 1 - k) 0 400 (by simp) (by simp) (by simp) ?_
  intro k hk
  rcases hk with rfl | ⟨rfl, h20⟩
  · by_cases h20 : l.length = 20
    · have hle : (20 : Int) ≤ l.length := by omega
      simp [hle]
      refine ⟨by omega, Again.mk 1 (.inr ⟨rfl, h20⟩) (by simp) (by simp)⟩
    · have hle : ¬ (20 : Int) ≤ l.length := by omega
      simp [hle]
      refine ⟨by omega, ?_⟩
      refine loop_inv (fun _ : Unit => True) (fun _ => [(0, .iface 241 (.own (0, 0) 3 0 l.length)), (1, dI l.length), (4, dI 20)]) (fun _ => [((0, 0), .arr false 3 yTBid (ML encTBid (sortB l l.length)))]) 2 (fun _ => 0) () 400 (by simp) (by simp) (by simp) ?_
      intro u _
      simp [hno]
  · have hle : ¬ (40 : Int) ≤ l.length := by omega
    simp [hle, hfn]
    refine ⟨by omega, ?_⟩
    refine loop_inv (fun _ : Unit => True) (fun _ => [(0, .iface 241 (.own (0, 0) 3 0 l.length)), (1, dI l.length), (4, dI 20)]) (fun _ => [((0, 0), .arr false 3 yTBid (ML encTBid (sortB l l.length)))]) 2 (fun _ => 0) () 400 (by simp) (by simp) (by simp) ?_
    intro u _
    simp [hno]
theorem c219_ok : c219.ok Try.prog := mkCon_ok fun ⟨l, n⟩ hpre => c219_pc l n hpre
/-- sort.Stable -/
noncomputable def c181 : Con := mkCon 181 true (α := (List TBid)) (fun x => (fun (l : List TBid) => ([.iface 241 (.own (0, 0) 3 0 l.length)] : List D)) x) (fun x => (fun (l : List TBid) => ([((0, 0), .arr false 3 yTBid (ML encTBid l))] : List (Nm × OO))) x) (fun x => (fun (l : List TBid) => l.length ≤ 20) x) (fun x => (fun (l : List TBid) => (.tup [] : D)) x) (fun x => (fun (l : List TBid) => ([((0, 0), .arr false 3 yTBid (ML encTBid (sortB l l.length)))] : List (Nm × OO))) x)
@[simp] theorem c181_f : c181.f = 181 := rfl
@[simp] theorem c181_own : c181.own = true := rfl
theorem c181_inj : ∀ u_ v_ : (List TBid), ((fun x => (fun (l : List TBid) => ([.iface 241 (.own (0, 0) 3 0 l.length)] : List D)) x) u_).map nz = ((fun x => (fun (l : List TBid) => ([.iface 241 (.own (0, 0) 3 0 l.length)] : List D)) x) v_).map nz → (fun x => (fun (l : List TBid) => ([((0, 0), .arr false 3 yTBid (ML encTBid l))] : List (Nm × OO))) x) u_ = (fun x => (fun (l : List TBid) => ([((0, 0), .arr false 3 yTBid (ML encTBid l))] : List (Nm × OO))) x) v_ → u_ = v_ := by
  intro u_ v_ h h2_
  obtain l := u_
  obtain l' := v_
  simp [nz_lit, nz1_lit, nz_agg, nz_sl, nz1_sl, nz_sx, nz_el, nz1_el, nz_own, nz1_own, nz_ptr, nz_fn, nz_iface] at h h2_
  first | (simp [h, h2_]; done) | (obtain ⟨h3_, h4_⟩ := List.append_inj h2_ h.1; simp_all; done) | simp_all | grind
@[simp] theorem c181_fn (l : List TBid) : c181.fn ([.iface 241 (.own (0, 0) 3 0 l.length)]) ([((0, 0), .arr false 3 yTBid (ML encTBid l))]) = some (l.length ≤ 20, .tup [], [((0, 0), .arr false 3 yTBid (ML encTBid (sortB l l.length)))]) :=
  mkCon_fn c181_inj (l : (List TBid)) rfl rfl
theorem c181_pc (l : List TBid) (hpre : l.length ≤ 20) : PCo Try.prog 181 ([.iface 241 (.own (0, 0) 3 0 l.length)]) (Tab.of ([((0, 0), .arr false 3 yTBid (ML encTBid l))])) (.tup []) (Tab.of ([((0, 0), .arr false 3 yTBid (ML encTBid (sortB l l.length)))])) := by
  refine pco_of_run [] (E := ⟨[c219, c275, c219], [(241, "Len", 275)], []⟩) (m := false) (base := 0) (Env.ok_cons c219_ok (Env.ok_cons c275_ok (Env.ok_cons c219_ok (Env.ok_me (meth_of (by kernel_rfl) (by kernel_rfl)) Env.ok_nil)))) G_ok mix 300 6 Try.func181 (by kernel_rfl) rfl (by kernel_rfl) (by kernel_rfl) rfl ?_
  simp [Try.f181]
  omega
theorem c181_ok : c181.ok Try.prog := mkCon_ok fun l hpre => c181_pc l hpre
/-- loop.example/g03007/impl.highestFirst -/
noncomputable def c134 : Con := mkCon 134 false (α := (List TBid)) (fun x => (fun (l : List TBid) => [encLTBid l]) x) (fun _ => []) (fun x => (fun (l : List TBid) => l.length ≤ 20) x) (fun x => (fun (l : List TBid) => (.own (0, 1) 3 0 l.length : D)) x) (fun x => (fun (l : List TBid) => [((0, 1), .arr false 3 yTBid (ML encTBid (sortB l l.length)))]) x)
@[simp] theorem c134_f : c134.f = 134 := rfl
@[simp] theorem c134_own : c134.own = false := rfl
theorem c134_inj : ∀ u_ v_ : (List TBid), ((fun x => (fun (l : List TBid) => [encLTBid l]) x) u_).map nz = ((fun x => (fun (l : List TBid) => [encLTBid l]) x) v_).map nz → u_ = v_ := by
  intro u_ v_ h
  obtain l := u_
  obtain l' := v_
  simp [nz_lit, nz1_lit, nz_agg, nz_sl, nz1_sl, encLTBid] at h
  first | (simp [h]; done) | (obtain ⟨⟩ := h; simp_all; done) | simp_all
@[simp] theorem c134_fn (l : List TBid) : c134.fn [.sl false 3 yTBid (ML encTBid l)] [] = some ((fun (l : List TBid) => l.length ≤ 20) l, (fun (l : List TBid) => (.own (0, 1) 3 0 l.length : D)) l, (fun (l : List TBid) => [((0, 1), .arr false 3 yTBid (ML encTBid (sortB l l.length)))]) l) :=
  mkCon_fn (fun x y h _ => c134_inj x y h) (l : (List TBid)) (by simp [nz, nz1, ML_nil, encLTBid]) rfl
@[simp] theorem c134_fn1 (s_l : Nat) (z_l : D) : c134.fn [.sl false s_l z_l []] [] = some ((fun (l : List TBid) => l.length ≤ 20) [], (fun (l : List TBid) => (.own (0, 1) 3 0 l.length : D)) [], (fun (l : List TBid) => [((0, 1), .arr false 3 yTBid (ML encTBid (sortB l l.length)))]) []) :=
  mkCon_fn (fun x y h _ => c134_inj x y h) ([] : (List TBid)) (by simp [nz, nz1, ML_nil, encLTBid]) rfl
theorem c134_pc (l : List TBid) (hpre : l.length ≤ 20) : PCo Try.prog 134 [encLTBid l] (Tab.of []) (.own (0, 1) 3 0 l.length) (Tab.of [((0, 1), .arr false 3 yTBid (ML encTBid (sortB l l.length)))]) := by
  refine pco_of_run [] (E := ⟨[c137, c181, c181], [], []⟩) (m := false) (base := 0) (Env.ok_cons c137_ok (Env.ok_cons c181_ok (Env.ok_cons c181_ok Env.ok_nil))) G_ok mix 300 6 Try.func134 (by kernel_rfl) rfl (by kernel_rfl) (by kernel_rfl) rfl ?_
  simp [Try.f134]
  omega
theorem c134_ok : c134.ok Try.prog := mkCon_ok fun l hpre => c134_pc l hpre
noncomputable def mWin (l : List TBid) : Int × Int := if l.length = 0 ∨ mAreBids l = false then (0, 0) else if l.length = 1 then (((sortB l l.length)[0]?.getD default).Who, 1) else (((sortB l l.length)[0]?.getD default).Who, ((sortB l l.length)[1]?.getD default).Cents)
theorem bids20 {l : List TBid} (h : mAreBids l = true) : l.length ≤ 20 := by
  simp only [mAreBids, Bool.and_eq_true, decide_eq_true_eq] at h; exact h.1.1
theorem win_at {l : List TBid} (h : mAreBids l = true) (hl : 0 < l.length) : (l.length = 1 → mWin l = (((sortB l l.length)[0]?.getD default).Who, 1)) ∧ (¬ l.length = 1 → mWin l = (((sortB l l.length)[0]?.getD default).Who, ((sortB l l.length)[1]?.getD default).Cents)) := by
  have hn : ¬ (l.length = 0 ∨ mAreBids l = false) := by
    rintro (e | e)
    · omega
    · rw [h] at e; cases e
  rw [mWin, if_neg hn]
  exact ⟨fun e => by rw [if_pos e], fun e => by rw [if_neg e]⟩
/-- loop.example/g03007/impl.Winner -/
noncomputable def c59 : Con := mkCon 59 false (α := (List TBid)) (fun x => (fun (l : List TBid) => [encLTBid l]) x) (fun _ => []) (fun x => (fun (l : List TBid) => l.length ≤ 1073741823) x) (fun x => (fun (l : List TBid) => (.tup [dI (mWin l).1, dI (mWin l).2] : D)) x) (fun x => (fun (l : List TBid) => []) x)
@[simp] theorem c59_f : c59.f = 59 := rfl
@[simp] theorem c59_own : c59.own = false := rfl
theorem c59_inj : ∀ u_ v_ : (List TBid), ((fun x => (fun (l : List TBid) => [encLTBid l]) x) u_).map nz = ((fun x => (fun (l : List TBid) => [encLTBid l]) x) v_).map nz → u_ = v_ := by
  intro u_ v_ h
  obtain l := u_
  obtain l' := v_
  simp [nz_lit, nz1_lit, nz_agg, nz_sl, nz1_sl, encLTBid] at h
  first | (simp [h]; done) | (obtain ⟨⟩ := h; simp_all; done) | simp_all
@[simp] theorem c59_fn (l : List TBid) : c59.fn [.sl false 3 yTBid (ML encTBid l)] [] = some ((fun (l : List TBid) => l.length ≤ 1073741823) l, (fun (l : List TBid) => (.tup [dI (mWin l).1, dI (mWin l).2] : D)) l, (fun (l : List TBid) => []) l) :=
  mkCon_fn (fun x y h _ => c59_inj x y h) (l : (List TBid)) (by simp [nz, nz1, ML_nil, encLTBid]) rfl
@[simp] theorem c59_fn1 (s_l : Nat) (z_l : D) : c59.fn [.sl false s_l z_l []] [] = some ((fun (l : List TBid) => l.length ≤ 1073741823) [], (fun (l : List TBid) => (.tup [dI (mWin l).1, dI (mWin l).2] : D)) [], (fun (l : List TBid) => []) []) :=
  mkCon_fn (fun x y h _ => c59_inj x y h) ([] : (List TBid)) (by simp [nz, nz1, ML_nil, encLTBid]) rfl
theorem c59_pc (l : List TBid) (hpre : l.length ≤ 1073741823) : PCo Try.prog 59 [encLTBid l] (Tab.of []) (.tup [dI (mWin l).1, dI (mWin l).2]) (Tab.of []) := by
  refine pco_of_run [] (E := ⟨[c60, c134], [], []⟩) (m := false) (base := 0) (Env.ok_cons c60_ok (Env.ok_cons c134_ok Env.ok_nil)) G_ok mix 300 6 Try.func59 (by kernel_rfl) rfl (by kernel_rfl) (by kernel_rfl) rfl ?_
  cases h : mAreBids l with
  | false =>
    have hm : mWin l = (0, 0) := by simp [mWin, h]
    simp [Try.f59, h, hm]
    exact fun _ => by omega
  | true =>
    have h20 := bids20 h
    have hsl : (sortB l l.length).length = l.length := sortK_len l _
    simp [Try.f59, h, hsl]
    have hw := win_at h
    refine ⟨fun _ => by omega, fun e => by simp [mWin, e], fun hne => ?_⟩
    have hl : 0 < l.length := List.length_pos_iff.2 hne
    refine ⟨by omega, fun h1 => ?_, fun h1 => ?_⟩
    · rw [(hw hl).1 (by omega)]; exact ⟨hl, rfl, rfl⟩
    · rw [(hw hl).2 (by omega)]; exact ⟨⟨hl, by omega, by omega⟩, rfl, rfl⟩
theorem c59_ok : c59.ok Try.prog := mkCon_ok fun l hpre => c59_pc l hpre
def whoAt (l : List TBid) (i : Nat) : Int := ((sortB l l.length)[i]?.getD default).Who
noncomputable def mHighN (l : List TBid) (n : Int) : Nat := if mAreBids l = false ∨ n < 0 then 0 else min n.toNat l.length
noncomputable def mHigh (l : List TBid) (n : Int) : List Int := gen (whoAt l) (mHighN l n)
/-- loop.example/g03007/impl.HighestBids -/
noncomputable def c62 : Con := mkCon 62 false (α := (List TBid) × Int) (fun x => (fun (l : List TBid) (n : Int) => [encLTBid l, dI n]) x.1 x.2) (fun _ => []) (fun x => (fun (l : List TBid) (n : Int) => l.length ≤ 1073741823) x.1 x.2) (fun x => (fun (l : List TBid) (n : Int) => (.own (0, 1) 1 0 (mHigh l n).length : D)) x.1 x.2) (fun x => (fun (l : List TBid) (n : Int) => [((0, 1), .arr false 1 (dI 0) (ML dI (mHigh l n)))]) x.1 x.2)
@[simp] theorem c62_f : c62.f = 62 := rfl
@[simp] theorem c62_own : c62.own = false := rfl
theorem c62_inj : ∀ u_ v_ : (List TBid) × Int, ((fun x => (fun (l : List TBid) (n : Int) => [encLTBid l, dI n]) x.1 x.2) u_).map nz = ((fun x => (fun (l : List TBid) (n : Int) => [encLTBid l, dI n]) x.1 x.2) v_).map nz → u_ = v_ := by
  intro u_ v_ h
  obtain ⟨l, n⟩ := u_
  obtain ⟨l', n'⟩ := v_
  simp [nz_lit, nz1_lit, nz_agg, nz_sl, nz1_sl, encLTBid] at h
  first | (simp [h]; done) | (obtain ⟨⟩ := h; simp_all; done) | simp_all
@[simp] theorem c62_fn (l : List TBid) (n : Int) : c62.fn [.sl false 3 yTBid (ML encTBid l), .lit (.int .i64 n)] [] = some ((fun (l : List TBid) (n : Int) => l.length ≤ 1073741823) l n, (fun (l : List TBid) (n : Int) => (.own (0, 1) 1 0 (mHigh l n).length : D)) l n, (fun (l : List TBid) (n : Int) => [((0, 1), .arr false 1 (dI 0) (ML dI (mHigh l n)))]) l n) :=
  mkCon_fn (fun x y h _ => c62_inj x y h) ((l, n) : (List TBid) × Int) (by simp [nz, nz1, ML_nil, encLTBid]) rfl
@[simp] theorem c62_fn1 (s_l : Nat) (z_l : D) (n : Int) : c62.fn [.sl false s_l z_l [], .lit (.int .i64 n)] [] = some ((fun (l : List TBid) (n : Int) => l.length ≤ 1073741823) [] n, (fun (l : List TBid) (n : Int) => (.own (0, 1) 1 0 (mHigh l n).length : D)) [] n, (fun (l : List TBid) (n : Int) => [((0, 1), .arr false 1 (dI 0) (ML dI (mHigh l n)))]) [] n) :=
  mkCon_fn (fun x y h _ => c62_inj x y h) (([], n) : (List TBid) × Int) (by simp [nz, nz1, ML_nil, encLTBid]) rfl
theorem c62_pc (l : List TBid) (n : Int) (hpre : l.length ≤ 1073741823) : PCo Try.prog 62 [encLTBid l, dI n] (Tab.of []) (.own (0, 1) 1 0 (mHigh l n).length) (Tab.of [((0, 1), .arr false 1 (dI 0) (ML dI (mHigh l n)))]) := by
  refine pco_of_run [] (E := ⟨[c60, c93, c134], [], []⟩) (m := false) (base := 0) (Env.ok_cons c60_ok (Env.ok_cons c93_ok (Env.ok_cons c134_ok Env.ok_nil))) G_ok mix 300 6 Try.func62 (by kernel_rfl) rfl (by kernel_rfl) (by kernel_rfl) rfl ?_
  by_cases h : mAreBids l = true ∧ 0 ≤ n
  · obtain ⟨hb, hn⟩ := h
    have h20 := bids20 hb
    have hsl : (sortB l l.length).length = l.length := sortK_len l _
    have hN : mHighN l n = min n.toNat l.length := by
      rw [mHighN, if_neg]
      rintro (e | e)
      · rw [hb] at e; cases e
      · omega
    have hneg : ¬ n < 0 := by omega
    have hmn : min n (l.length : Int) = ((min n.toNat l.length : Nat) : Int) := by omega
    have hm : mHigh l n = gen (whoAt l) (min n.toNat l.length) := by rw [mHigh, hN]
    simp [Try.f62, hb, hneg, hsl, hmn]
    refine ⟨by omega, ⟨h20, by omega⟩, ?_⟩
    refine loop_inv (fun p : Nat => p ≤ min n.toNat l.length) (fun p => [(5, .own (1, 1) 1 0 p), (23, .own (0, 1) 3 0 (min n.toNat l.length)), (24, dI (min n.toNat l.length : Nat)), (25, dI p)]) (fun p => [((0, 1), .arr false 3 yTBid (ML encTBid (sortB l l.length))), ((1, 1), .arr false 1 (dI 0) (ML dI (gen (whoAt l) p)))]) 2 (fun p => min n.toNat l.length - p) 0 400 (by simp) (by simp) (by simp) ?_
    intro p hp
    simp [hsl]
    refine ⟨fun hlt => ?_, fun hge => ?_⟩
    · repeat' (first | omega | refine And.intro ?_ ?_ | intro _)
      all_goals first | omega | exact Again.mk (p + 1) (by omega) (by simp [gen_succ, whoAt]) (by first | omega | (simp; omega)) | trace_state
    · have : p = min n.toNat l.length := by omega
      rw [hm, this]; simp
  · have hN : mHighN l n = 0 := by
      rw [mHighN, if_pos]; by_cases e : mAreBids l = true
      · exact .inr (by rcases Int.lt_or_le n 0 with q | q; exact q; exact absurd ⟨e, q⟩ h)
      · exact .inl (by simpa using e)
    have hm : mHigh l n = [] := by rw [mHigh, hN]; rfl
    simp [Try.f62, hm]
    exact ⟨by omega, fun h1 h2 => absurd ⟨h1, h2⟩ h⟩
theorem c62_ok : c62.ok Try.prog := mkCon_ok fun ⟨l, n⟩ hpre => c62_pc l n hpre
end Go.Proofs.Ytpnfkjbnhholfaa
