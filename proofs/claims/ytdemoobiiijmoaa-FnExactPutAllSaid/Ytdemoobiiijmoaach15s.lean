/- Contracts of the functions that the laws run. -/
import Derived.Test.Ytdemoobiiijmoaach14p
import Derived.Test.Ytdemoobiiijmoaasortk
import Derived.Test.YtdemoobiiijmoaaEngB
namespace Go.Proofs.Ytdemoobiiijmoaa
open Go Go.Eng
set_option linter.unusedSimpArgs false
set_option linter.unusedVariables false
set_option maxRecDepth 10000
set_option maxHeartbeats 1000000
/-- slices.Clone[[]loop.example/g03007/impl.Thin -/
noncomputable def c62 : Con := mkCon 62 false (α := (List TThing)) (fun x => (fun (l : List TThing) => [encLTThing l]) x) (fun _ => []) (fun x => (fun (l : List TThing) => l.length ≤ 1073741824) x) (fun x => (fun (l : List TThing) => (.own (0, 1) 5 0 l.length : D)) x) (fun x => (fun (l : List TThing) => [((0, 1), .arr false 5 yTThing (ML encTThing l))]) x)
@[simp] theorem c62_f : c62.f = 62 := rfl
@[simp] theorem c62_own : c62.own = false := rfl
theorem c62_inj : ∀ u_ v_ : (List TThing), ((fun x => (fun (l : List TThing) => [encLTThing l]) x) u_).map nz = ((fun x => (fun (l : List TThing) => [encLTThing l]) x) v_).map nz → u_ = v_ := by
  intro u_ v_ h
  obtain l := u_
  obtain l' := v_
  simp [nz_lit, nz1_lit, nz_agg, nz_sl, nz1_sl, encLTThing] at h
  first | (simp [h]; done) | (obtain ⟨⟩ := h; simp_all; done) | simp_all
@[simp] theorem c62_fn (l : List TThing) : c62.fn [.sl false 5 yTThing (ML encTThing l)] [] = some ((fun (l : List TThing) => l.length ≤ 1073741824) l, (fun (l : List TThing) => (.own (0, 1) 5 0 l.length : D)) l, (fun (l : List TThing) => [((0, 1), .arr false 5 yTThing (ML encTThing l))]) l) :=
  mkCon_fn (fun x y h _ => c62_inj x y h) (l : (List TThing)) (by simp [nz, nz1, ML_nil, encLTThing]) rfl
@[simp] theorem c62_fn1 (s_l : Nat) (z_l : D) : c62.fn [.sl false s_l z_l []] [] = some ((fun (l : List TThing) => l.length ≤ 1073741824) [], (fun (l : List TThing) => (.own (0, 1) 5 0 l.length : D)) [], (fun (l : List TThing) => [((0, 1), .arr false 5 yTThing (ML encTThing l))]) []) :=
  mkCon_fn (fun x y h _ => c62_inj x y h) ([] : (List TThing)) (by simp [nz, nz1, ML_nil, encLTThing]) rfl
theorem c62_pc (l : List TThing) (hpre : l.length ≤ 1073741824) : PCo Try.prog 62 [encLTThing l] (Tab.of []) (.own (0, 1) 5 0 l.length) (Tab.of [((0, 1), .arr false 5 yTThing (ML encTThing l))]) := by
  by_cases hl : l = []
  · subst hl
    show PCo Try.prog 62 [.sl false 5 yTThing []] Tab.nil (.own (0, 1) 5 0 0) (Tab.of [((0, 1), .arr false 5 yTThing [])])
    refine pco_slice fun a cap => ?_
    cases a with
    | none =>
      refine pc_ghost (s' := 0) (z' := .any) ?_
      refine pco_of_run [] (tin := []) (E := ⟨[], [], []⟩) (m := false) (base := 0) Env.ok_nil G_ok mix 300 6 Try.func62 (by kernel_rfl) rfl (by kernel_rfl) (by kernel_rfl) rfl ?_
      simp [Try.f62]
    | some q =>
      refine pco_of_run [] (tin := []) (E := ⟨[], [], []⟩) (m := false) (base := 0) Env.ok_nil G_ok mix 300 6 Try.func62 (by kernel_rfl) rfl (by kernel_rfl) (by kernel_rfl) rfl ?_
      simp [Try.f62]
  · refine pco_of_run [] (E := ⟨[], [], []⟩) (m := false) (base := 0) Env.ok_nil G_ok mix 300 6 Try.func62 (by kernel_rfl) rfl (by kernel_rfl) (by kernel_rfl) rfl ?_
    simp [Try.f62, -nilS, nilS_ML hl]
    omega
theorem c62_ok : c62.ok Try.prog := mkCon_ok fun l hpre => c62_pc l hpre
def ltT (x y : TThing) : Bool := decide (y.Size < x.Size)
abbrev sortT (l : List TThing) (p : Nat) : List TThing := sortK ltT default l p
theorem cmp_neg (a b : Int) : ((if a < b then (-1 : Int) else if b < a then 1 else 0) < 0) = (a < b) := by
  rw [eq_iff_iff]; split
  · rename_i h; simp [h]
  · rename_i h; split <;> simp <;> omega
/-- cmp.Compare[int] -/
noncomputable def c65 : Con := mkCon 65 false (α := Int × Int) (fun x => (fun (a : Int) (b : Int) => [dI a, dI b]) x.1 x.2) (fun _ => []) (fun x => (fun (a : Int) (b : Int) => True) x.1 x.2) (fun x => (fun (a : Int) (b : Int) => (dI (if a < b then -1 else if b < a then 1 else 0) : D)) x.1 x.2) (fun x => (fun (a : Int) (b : Int) => []) x.1 x.2)
@[simp] theorem c65_f : c65.f = 65 := rfl
@[simp] theorem c65_own : c65.own = false := rfl
theorem c65_inj : ∀ u_ v_ : Int × Int, ((fun x => (fun (a : Int) (b : Int) => [dI a, dI b]) x.1 x.2) u_).map nz = ((fun x => (fun (a : Int) (b : Int) => [dI a, dI b]) x.1 x.2) v_).map nz → u_ = v_ := by
  intro u_ v_ h
  obtain ⟨a, b⟩ := u_
  obtain ⟨a', b'⟩ := v_
  simp [nz_lit, nz1_lit, nz_agg, nz_sl, nz1_sl] at h
  first | (simp [h]; done) | (obtain ⟨⟩ := h; simp_all; done) | simp_all
@[simp] theorem c65_fn (a : Int) (b : Int) : c65.fn [.lit (.int .i64 a), .lit (.int .i64 b)] [] = some ((fun (a : Int) (b : Int) => True) a b, (fun (a : Int) (b : Int) => (dI (if a < b then -1 else if b < a then 1 else 0) : D)) a b, (fun (a : Int) (b : Int) => []) a b) :=
  mkCon_fn (fun x y h _ => c65_inj x y h) ((a, b) : Int × Int) (by simp [nz, nz1, ML_nil]) rfl
theorem c65_pc (a : Int) (b : Int) : PCo Try.prog 65 [dI a, dI b] (Tab.of []) (dI (if a < b then -1 else if b < a then 1 else 0)) (Tab.of []) := by
  refine pco_of_run [] (E := ⟨[c75], [], []⟩) (m := false) (base := 0) (Env.ok_cons c75_ok Env.ok_nil) G_ok mix 300 6 Try.func65 (by kernel_rfl) rfl (by kernel_rfl) (by kernel_rfl) rfl ?_
  simp [Try.f65]
  all_goals first | omega | (rw [Bool.eq_iff_iff]; simp; omega) | grind
theorem c65_ok : c65.ok Try.prog := mkCon_ok fun ⟨a, b⟩ hpre => c65_pc a b
/-- loop.example/g03007/impl.largestFirst$1 -/
noncomputable def c64 : Con := mkCon 64 false (α := TThing × TThing) (fun x => (fun (a : TThing) (b : TThing) => ([encTThing a, encTThing b] : List D)) x.1 x.2) (fun x => (fun (a : TThing) (b : TThing) => ([] : List (Nm × OO))) x.1 x.2) (fun x => (fun (a : TThing) (b : TThing) => True) x.1 x.2) (fun x => (fun (a : TThing) (b : TThing) => (dI (if b.Size < a.Size then -1 else if a.Size < b.Size then 1 else 0) : D)) x.1 x.2) (fun x => (fun (a : TThing) (b : TThing) => ([] : List (Nm × OO))) x.1 x.2)
@[simp] theorem c64_f : c64.f = 64 := rfl
@[simp] theorem c64_own : c64.own = false := rfl
theorem c64_inj : ∀ u_ v_ : TThing × TThing, ((fun x => (fun (a : TThing) (b : TThing) => ([encTThing a, encTThing b] : List D)) x.1 x.2) u_).map nz = ((fun x => (fun (a : TThing) (b : TThing) => ([encTThing a, encTThing b] : List D)) x.1 x.2) v_).map nz → (fun x => (fun (a : TThing) (b : TThing) => ([] : List (Nm × OO))) x.1 x.2) u_ = (fun x => (fun (a : TThing) (b : TThing) => ([] : List (Nm × OO))) x.1 x.2) v_ → u_ = v_ := by
  intro u_ v_ h h2_
  obtain ⟨⟨a_Id, a_Kind, a_Colour, a_Size, a_Worth⟩, ⟨b_Id, b_Kind, b_Colour, b_Size, b_Worth⟩⟩ := u_
  obtain ⟨⟨a_Id', a_Kind', a_Colour', a_Size', a_Worth'⟩, ⟨b_Id', b_Kind', b_Colour', b_Size', b_Worth'⟩⟩ := v_
  simp [nz_lit, nz1_lit, nz_agg, nz_sl, nz1_sl, nz_sx, nz_el, nz1_el, nz_own, nz1_own, nz_ptr, nz_fn, nz_iface] at h h2_
  first | (simp [h, h2_]; done) | (obtain ⟨h3_, h4_⟩ := List.append_inj h2_ h.1; simp_all; done) | simp_all | grind
@[simp] theorem c64_fn (a_Id : Int) (a_Kind : Int) (a_Colour : Int) (a_Size : Int) (a_Worth : Int) (b_Id : Int) (b_Kind : Int) (b_Colour : Int) (b_Size : Int) (b_Worth : Int) : c64.fn ([.agg [.lit (.int .i64 a_Id), .lit (.int .i64 a_Kind), .lit (.int .i64 a_Colour), .lit (.int .i64 a_Size), .lit (.int .i64 a_Worth)], .agg [.lit (.int .i64 b_Id), .lit (.int .i64 b_Kind), .lit (.int .i64 b_Colour), .lit (.int .i64 b_Size), .lit (.int .i64 b_Worth)]]) ([]) = some (True, dI (if (⟨b_Id, b_Kind, b_Colour, b_Size, b_Worth⟩ : TThing).Size < (⟨a_Id, a_Kind, a_Colour, a_Size, a_Worth⟩ : TThing).Size then -1 else if (⟨a_Id, a_Kind, a_Colour, a_Size, a_Worth⟩ : TThing).Size < (⟨b_Id, b_Kind, b_Colour, b_Size, b_Worth⟩ : TThing).Size then 1 else 0), []) :=
  mkCon_fn c64_inj ((⟨a_Id, a_Kind, a_Colour, a_Size, a_Worth⟩, ⟨b_Id, b_Kind, b_Colour, b_Size, b_Worth⟩) : TThing × TThing) rfl rfl
theorem c64_pc (a : TThing) (b : TThing) : PCo Try.prog 64 ([encTThing a, encTThing b]) (Tab.of ([])) (dI (if b.Size < a.Size then -1 else if a.Size < b.Size then 1 else 0)) (Tab.of ([])) := by
  refine pco_of_run [] (E := ⟨[c65], [], []⟩) (m := false) (base := 0) (Env.ok_cons c65_ok Env.ok_nil) G_ok mix 300 6 Try.func64 (by kernel_rfl) rfl (by kernel_rfl) (by kernel_rfl) rfl ?_
  simp [Try.f64]
  first | done | grind | omega
theorem c64_ok : c64.ok Try.prog := mkCon_ok fun ⟨a, b⟩ hpre => c64_pc a b
/-- slices.insertionSortCmpFunc[loop.example/g03007/impl.Thing] -/
noncomputable def c89 : Con := mkCon 89 true (α := (List TThing) × Int × Int) (fun x => (fun (l : List TThing) (a : Int) (b : Int) => ([.own (0, 0) 5 0 l.length, dI a, dI b, .fn (.func 64) [] []] : List D)) x.1 x.2.1 x.2.2) (fun x => (fun (l : List TThing) (a : Int) (b : Int) => ([((0, 0), .arr false 5 yTThing (ML encTThing l))] : List (Nm × OO))) x.1 x.2.1 x.2.2) (fun x => (fun (l : List TThing) (a : Int) (b : Int) => l.length ≤ 20 ∧ 0 ≤ a ∧ a ≤ 20 ∧ b = l.length ∧ (a = 0 ∨ b ≤ a)) x.1 x.2.1 x.2.2) (fun x => (fun (l : List TThing) (a : Int) (b : Int) => (.tup [] : D)) x.1 x.2.1 x.2.2) (fun x => (fun (l : List TThing) (a : Int) (b : Int) => ([((0, 0), .arr false 5 yTThing (ML encTThing (if a = 0 then sortT l l.length else l)))] : List (Nm × OO))) x.1 x.2.1 x.2.2)
@[simp] theorem c89_f : c89.f = 89 := rfl
@[simp] theorem c89_own : c89.own = true := rfl
theorem c89_inj : ∀ u_ v_ : (List TThing) × Int × Int, ((fun x => (fun (l : List TThing) (a : Int) (b : Int) => ([.own (0, 0) 5 0 l.length, dI a, dI b, .fn (.func 64) [] []] : List D)) x.1 x.2.1 x.2.2) u_).map nz = ((fun x => (fun (l : List TThing) (a : Int) (b : Int) => ([.own (0, 0) 5 0 l.length, dI a, dI b, .fn (.func 64) [] []] : List D)) x.1 x.2.1 x.2.2) v_).map nz → (fun x => (fun (l : List TThing) (a : Int) (b : Int) => ([((0, 0), .arr false 5 yTThing (ML encTThing l))] : List (Nm × OO))) x.1 x.2.1 x.2.2) u_ = (fun x => (fun (l : List TThing) (a : Int) (b : Int) => ([((0, 0), .arr false 5 yTThing (ML encTThing l))] : List (Nm × OO))) x.1 x.2.1 x.2.2) v_ → u_ = v_ := by
  intro u_ v_ h h2_
  obtain ⟨l, a, b⟩ := u_
  obtain ⟨l', a', b'⟩ := v_
  simp [nz_lit, nz1_lit, nz_agg, nz_sl, nz1_sl, nz_sx, nz_el, nz1_el, nz_own, nz1_own, nz_ptr, nz_fn, nz_iface] at h h2_
  first | (simp [h, h2_]; done) | (obtain ⟨h3_, h4_⟩ := List.append_inj h2_ h.1; simp_all; done) | simp_all | grind
@[simp] theorem c89_fn (l : List TThing) (a : Int) (b : Int) : c89.fn ([.own (0, 0) 5 0 l.length, dI a, dI b, .fn (.func 64) [] []]) ([((0, 0), .arr false 5 yTThing (ML encTThing l))]) = some (l.length ≤ 20 ∧ 0 ≤ a ∧ a ≤ 20 ∧ b = l.length ∧ (a = 0 ∨ b ≤ a), .tup [], [((0, 0), .arr false 5 yTThing (ML encTThing (if a = 0 then sortT l l.length else l)))]) :=
  mkCon_fn c89_inj ((l, a, b) : (List TThing) × Int × Int) rfl rfl
theorem c89_pc (l : List TThing) (a : Int) (b : Int) (hpre : l.length ≤ 20 ∧ 0 ≤ a ∧ a ≤ 20 ∧ b = l.length ∧ (a = 0 ∨ b ≤ a)) : PCo Try.prog 89 ([.own (0, 0) 5 0 l.length, dI a, dI b, .fn (.func 64) [] []]) (Tab.of ([((0, 0), .arr false 5 yTThing (ML encTThing l))])) (.tup []) (Tab.of ([((0, 0), .arr false 5 yTThing (ML encTThing (if a = 0 then sortT l l.length else l)))])) := by
  refine pco_of_run [] (E := ⟨[c64], [], []⟩) (m := false) (base := 0) (Env.ok_cons c64_ok Env.ok_nil) G_ok mix 300 6 Try.func89 (by kernel_rfl) rfl (by kernel_rfl) (by kernel_rfl) rfl ?_
  simp [Try.f89]
  obtain ⟨hp, ha, ha2, hb, hab⟩ := hpre
  subst hb
  refine ⟨by omega, ?_⟩
  by_cases h0 : a = 0 ∧ 0 < l.length
  · obtain ⟨h0, hl⟩ := h0
    subst h0
    have hstart : l = sortT l 1 ++ l.tail := by have := sortK_one (lt := ltT) (d := default) l hl; simpa using this.symm
    refine loop_inv (fun i : Nat => 1 ≤ i ∧ i ≤ l.length) (fun i => [(0, .own (0, 0) 5 0 l.length), (1, dI 0), (2, dI l.length), (3, .fn (.func 64) [] []), (8, dI i)]) (fun i => [((0, 0), .arr false 5 yTThing (ML encTThing (sortT l i ++ l.drop i)))]) 2 (fun i => l.length - i) 1 400 (by simp) (by simp; omega) (by simp; exact hstart) ?_
    intro i ⟨hi1, hi⟩
    simp
    refine ⟨fun hlt => ?_, fun hge => ?_⟩
    · have hPl : (sortT l i).length = i := sortK_len l i
      have hst := rowK_start (lt := ltT) (d := default) l hlt
      refine loop_inv (fun j : Nat => j ≤ i ∧ cutF ltT default (l[i]?.getD default) (sortT l i) i = cutF ltT default (l[i]?.getD default) (sortT l i) j) (fun j => [(0, .own (0, 0) 5 0 l.length), (1, dI 0), (2, dI l.length), (3, .fn (.func 64) [] []), (8, dI i), (9, dI j)]) (fun j => [((0, 0), .arr false 5 yTThing (ML encTThing (rowK (l[i]?.getD default) (sortT l i) (l.drop (i + 1)) j)))]) 2 (fun j => j) i 400 (by simp) (by simp) (by simp [← hst]) ?_
      intro j ⟨hj, hc⟩
      have hrl : (rowK (l[i]?.getD default) (sortT l i) (l.drop (i + 1)) j).length = l.length := by
        rw [rowK_len _ _ _ (by omega), hPl]; simp; omega
      cases j with
      | zero =>
        have hstop := rowK_stop (lt := ltT) (d := default) l (i := i) (j := 0) (by rw [hc]; rfl)
        simp
        refine ⟨by omega, Again.mk (i + 1) ⟨by omega, by omega⟩ (by simp [hstop]) (by first | omega | (simp; omega))⟩
      | succ j =>
        have h1 := rowK_at (d := default) (l[i]?.getD default) (sortT l i) (l.drop (i + 1)) (j := j + 1) (by omega)
        have h2 := rowK_before (d := default) (l[i]?.getD default) (sortT l i) (l.drop (i + 1)) (j := j) (by omega)
        have hset := rowK_swap (d := default) (l[i]?.getD default) (sortT l i) (l.drop (i + 1)) (j := j) (by omega)
        have e1 : ((j : Int) + 1 - 1).toNat = j := by omega
        have e2 : ((j : Int) + 1).toNat = j + 1 := by omega
        simp [e1, e2, h1, h2, hset, hrl]
        have hcn := cmp_neg ((sortT l i)[j]?.getD default).Size (l[i]?.getD default).Size
        have hcs : cutF ltT default (l[i]?.getD default) (sortT l i) (j + 1) = if ltT (l[i]?.getD default) ((sortT l i)[j]?.getD default) then cutF ltT default (l[i]?.getD default) (sortT l i) j else j + 1 := rfl
        have hld : ltT (l[i]?.getD default) ((sortT l i)[j]?.getD default) = decide (((sortT l i)[j]?.getD default).Size < (l[i]?.getD default).Size) := rfl
        refine ⟨⟨by omega, by omega, by omega, by omega⟩, fun hw => ?_, fun hw => ?_⟩
        · rw [hcn] at hw
          refine ⟨by omega, by omega, Again.mk j ⟨by omega, by rw [hc, hcs, if_pos (by rw [hld]; simpa using hw)]⟩ (by simp) (by first | omega | (simp; omega))⟩
        · have hw2 : ¬ ((sortT l i)[j]?.getD default).Size < (l[i]?.getD default).Size := by rw [← hcn]; omega
          have hstop := rowK_stop (lt := ltT) (d := default) l (i := i) (j := j + 1) (by rw [hc, hcs, if_neg (by rw [hld]; simpa using hw2)])
          exact ⟨by omega, Again.mk (i + 1) ⟨by omega, by omega⟩ (by simp [hstop]) (by first | omega | (simp; omega))⟩
    · have : i = l.length := by omega
      subst this
      simp
  · have hend : ¬ a + 1 < l.length := by omega
    have hrow : (if a = 0 then sortT l l.length else l) = l := by
      split
      · have : l = [] := List.eq_nil_of_length_eq_zero (by omega)
        subst this; rfl
      · rfl
    refine loop_inv (fun _ : Unit => True) (fun _ => [(0, .own (0, 0) 5 0 l.length), (1, dI a), (2, dI l.length), (3, .fn (.func 64) [] []), (8, dI (a + 1))]) (fun _ => [((0, 0), .arr false 5 yTThing (ML encTThing l))]) 2 (fun _ => 0) () 400 (by simp) (by simp) (by simp) ?_
    intro u _
    simp [hend, hrow]
theorem c89_ok : c89.ok Try.prog := mkCon_ok fun ⟨l, a, b⟩ hpre => c89_pc l a b hpre
/-- slices.stableCmpFunc[loop.example/g03007/impl.Thing] -/
noncomputable def c74 : Con := mkCon 74 true (α := (List TThing) × Int) (fun x => (fun (l : List TThing) (n : Int) => ([.own (0, 0) 5 0 l.length, dI n, .fn (.func 64) [] []] : List D)) x.1 x.2) (fun x => (fun (l : List TThing) (n : Int) => ([((0, 0), .arr false 5 yTThing (ML encTThing l))] : List (Nm × OO))) x.1 x.2) (fun x => (fun (l : List TThing) (n : Int) => l.length ≤ 20 ∧ n = l.length) x.1 x.2) (fun x => (fun (l : List TThing) (n : Int) => (.tup [] : D)) x.1 x.2) (fun x => (fun (l : List TThing) (n : Int) => ([((0, 0), .arr false 5 yTThing (ML encTThing (sortT l l.length)))] : List (Nm × OO))) x.1 x.2)
@[simp] theorem c74_f : c74.f = 74 := rfl
@[simp] theorem c74_own : c74.own = true := rfl
theorem c74_inj : ∀ u_ v_ : (List TThing) × Int, ((fun x => (fun (l : List TThing) (n : Int) => ([.own (0, 0) 5 0 l.length, dI n, .fn (.func 64) [] []] : List D)) x.1 x.2) u_).map nz = ((fun x => (fun (l : List TThing) (n : Int) => ([.own (0, 0) 5 0 l.length, dI n, .fn (.func 64) [] []] : List D)) x.1 x.2) v_).map nz → (fun x => (fun (l : List TThing) (n : Int) => ([((0, 0), .arr false 5 yTThing (ML encTThing l))] : List (Nm × OO))) x.1 x.2) u_ = (fun x => (fun (l : List TThing) (n : Int) => ([((0, 0), .arr false 5 yTThing (ML encTThing l))] : List (Nm × OO))) x.1 x.2) v_ → u_ = v_ := by
  intro u_ v_ h h2_
  obtain ⟨l, n⟩ := u_
  obtain ⟨l', n'⟩ := v_
  simp [nz_lit, nz1_lit, nz_agg, nz_sl, nz1_sl, nz_sx, nz_el, nz1_el, nz_own, nz1_own, nz_ptr, nz_fn, nz_iface] at h h2_
  first | (simp [h, h2_]; done) | (obtain ⟨h3_, h4_⟩ := List.append_inj h2_ h.1; simp_all; done) | simp_all | grind
@[simp] theorem c74_fn (l : List TThing) (n : Int) : c74.fn ([.own (0, 0) 5 0 l.length, dI n, .fn (.func 64) [] []]) ([((0, 0), .arr false 5 yTThing (ML encTThing l))]) = some (l.length ≤ 20 ∧ n = l.length, .tup [], [((0, 0), .arr false 5 yTThing (ML encTThing (sortT l l.length)))]) :=
  mkCon_fn c74_inj ((l, n) : (List TThing) × Int) rfl rfl
theorem c74_pc (l : List TThing) (n : Int) (hpre : l.length ≤ 20 ∧ n = l.length) : PCo Try.prog 74 ([.own (0, 0) 5 0 l.length, dI n, .fn (.func 64) [] []]) (Tab.of ([((0, 0), .arr false 5 yTThing (ML encTThing l))])) (.tup []) (Tab.of ([((0, 0), .arr false 5 yTThing (ML encTThing (sortT l l.length)))])) := by
  refine pco_of_run [] (E := ⟨[c89, c64, c89], [], []⟩) (m := false) (base := 0) (Env.ok_cons c89_ok (Env.ok_cons c64_ok (Env.ok_cons c89_ok Env.ok_nil))) G_ok mix 300 6 Try.func74 (by kernel_rfl) rfl (by kernel_rfl) (by kernel_rfl) rfl ?_
  simp [Try.f74]
  obtain ⟨hp, hn⟩ := hpre
  subst hn
  have hsl : (sortT l l.length).length = l.length := sortK_len l _
  have hfn : ∀ a b : Int, c89.fn [.own (0, 0) 5 0 l.length, dI a, dI b, .fn (.func 64) [] []] [((0, 0), .arr false 5 yTThing (ML encTThing (sortT l l.length)))] = some (l.length ≤ 20 ∧ 0 ≤ a ∧ a ≤ 20 ∧ b = l.length ∧ (a = 0 ∨ b ≤ a), .tup [], [((0, 0), .arr false 5 yTThing (ML encTThing (if a = 0 then sortT (sortT l l.length) l.length else sortT l l.length)))]) := fun a b => by
    have h := c89_fn (sortT l l.length) a b
    simp only [hsl] at h
    exact h
  have hno : ¬ (20 : Int) < l.length := by omega
  refine loop_inv (fun k : Nat => k = 0 ∨ (k = 1 ∧ l.length = 20)) (fun k => [(0, .own (0, 0) 5 0 l.length), (1, dI l.length), (2, .fn (.func 64) [] []), (6, dI 20), (7, dI (20 * k)), (8, dI (20 + 20 * k))]) (fun k => [((0, 0), .arr false 5 yTThing (ML encTThing (if k = 0 then l else sortT l l.length)))]) 2 (fun k => 1 - k) 0 400 (by simp) (by simp) (by simp) ?_
  intro k hk
  rcases hk with rfl | ⟨rfl, h20⟩
  · by_cases h20 : l.length = 20
    · have hle : (20 : Int) ≤ l.length := by omega
      simp [hle]
      refine ⟨⟨by omega, by omega⟩, Again.mk 1 (.inr ⟨rfl, h20⟩) (by simp) (by simp)⟩
    · have hle : ¬ (20 : Int) ≤ l.length := by omega
      simp [hle]
      refine ⟨by omega, ?_⟩
      refine loop_inv (fun _ : Unit => True) (fun _ => [(0, .own (0, 0) 5 0 l.length), (1, dI l.length), (2, .fn (.func 64) [] []), (6, dI 20)]) (fun _ => [((0, 0), .arr false 5 yTThing (ML encTThing (sortT l l.length)))]) 2 (fun _ => 0) () 400 (by simp) (by simp) (by simp) ?_
      intro u _
      simp [hno]
  · have hle : ¬ (40 : Int) ≤ l.length := by omega
    simp [hle, hfn]
    refine ⟨⟨by omega, by omega⟩, ?_⟩
    refine loop_inv (fun _ : Unit => True) (fun _ => [(0, .own (0, 0) 5 0 l.length), (1, dI l.length), (2, .fn (.func 64) [] []), (6, dI 20)]) (fun _ => [((0, 0), .arr false 5 yTThing (ML encTThing (sortT l l.length)))]) 2 (fun _ => 0) () 400 (by simp) (by simp) (by simp) ?_
    intro u _
    simp [hno]
theorem c74_ok : c74.ok Try.prog := mkCon_ok fun ⟨l, n⟩ hpre => c74_pc l n hpre
/-- slices.SortStableFunc[[]loop.example/g03007/impl.Thin -/
noncomputable def c63 : Con := mkCon 63 true (α := (List TThing)) (fun x => (fun (l : List TThing) => ([.own (0, 0) 5 0 l.length, .fn (.func 64) [] []] : List D)) x) (fun x => (fun (l : List TThing) => ([((0, 0), .arr false 5 yTThing (ML encTThing l))] : List (Nm × OO))) x) (fun x => (fun (l : List TThing) => l.length ≤ 20) x) (fun x => (fun (l : List TThing) => (.tup [] : D)) x) (fun x => (fun (l : List TThing) => ([((0, 0), .arr false 5 yTThing (ML encTThing (sortT l l.length)))] : List (Nm × OO))) x)
@[simp] theorem c63_f : c63.f = 63 := rfl
@[simp] theorem c63_own : c63.own = true := rfl
theorem c63_inj : ∀ u_ v_ : (List TThing), ((fun x => (fun (l : List TThing) => ([.own (0, 0) 5 0 l.length, .fn (.func 64) [] []] : List D)) x) u_).map nz = ((fun x => (fun (l : List TThing) => ([.own (0, 0) 5 0 l.length, .fn (.func 64) [] []] : List D)) x) v_).map nz → (fun x => (fun (l : List TThing) => ([((0, 0), .arr false 5 yTThing (ML encTThing l))] : List (Nm × OO))) x) u_ = (fun x => (fun (l : List TThing) => ([((0, 0), .arr false 5 yTThing (ML encTThing l))] : List (Nm × OO))) x) v_ → u_ = v_ := by
  intro u_ v_ h h2_
  obtain l := u_
  obtain l' := v_
  simp [nz_lit, nz1_lit, nz_agg, nz_sl, nz1_sl, nz_sx, nz_el, nz1_el, nz_own, nz1_own, nz_ptr, nz_fn, nz_iface] at h h2_
  first | (simp [h, h2_]; done) | (obtain ⟨h3_, h4_⟩ := List.append_inj h2_ h.1; simp_all; done) | simp_all | grind
@[simp] theorem c63_fn (l : List TThing) : c63.fn ([.own (0, 0) 5 0 l.length, .fn (.func 64) [] []]) ([((0, 0), .arr false 5 yTThing (ML encTThing l))]) = some (l.length ≤ 20, .tup [], [((0, 0), .arr false 5 yTThing (ML encTThing (sortT l l.length)))]) :=
  mkCon_fn c63_inj (l : (List TThing)) rfl rfl
theorem c63_pc (l : List TThing) (hpre : l.length ≤ 20) : PCo Try.prog 63 ([.own (0, 0) 5 0 l.length, .fn (.func 64) [] []]) (Tab.of ([((0, 0), .arr false 5 yTThing (ML encTThing l))])) (.tup []) (Tab.of ([((0, 0), .arr false 5 yTThing (ML encTThing (sortT l l.length)))])) := by
  refine pco_of_run [] (E := ⟨[c74, c64, c74], [], []⟩) (m := false) (base := 0) (Env.ok_cons c74_ok (Env.ok_cons c64_ok (Env.ok_cons c74_ok Env.ok_nil))) G_ok mix 300 6 Try.func63 (by kernel_rfl) rfl (by kernel_rfl) (by kernel_rfl) rfl ?_
  simp [Try.f63]
  simpa using hpre
theorem c63_ok : c63.ok Try.prog := mkCon_ok fun l hpre => c63_pc l hpre
/-- loop.example/g03007/impl.largestFirst -/
noncomputable def c45 : Con := mkCon 45 false (α := (List TThing)) (fun x => (fun (l : List TThing) => [encLTThing l]) x) (fun _ => []) (fun x => (fun (l : List TThing) => l.length ≤ 20) x) (fun x => (fun (l : List TThing) => (encLTThing (sortT l l.length) : D)) x) (fun x => (fun (l : List TThing) => []) x)
@[simp] theorem c45_f : c45.f = 45 := rfl
@[simp] theorem c45_own : c45.own = false := rfl
theorem c45_inj : ∀ u_ v_ : (List TThing), ((fun x => (fun (l : List TThing) => [encLTThing l]) x) u_).map nz = ((fun x => (fun (l : List TThing) => [encLTThing l]) x) v_).map nz → u_ = v_ := by
  intro u_ v_ h
  obtain l := u_
  obtain l' := v_
  simp [nz_lit, nz1_lit, nz_agg, nz_sl, nz1_sl, encLTThing] at h
  first | (simp [h]; done) | (obtain ⟨⟩ := h; simp_all; done) | simp_all
@[simp] theorem c45_fn (l : List TThing) : c45.fn [.sl false 5 yTThing (ML encTThing l)] [] = some ((fun (l : List TThing) => l.length ≤ 20) l, (fun (l : List TThing) => (encLTThing (sortT l l.length) : D)) l, (fun (l : List TThing) => []) l) :=
  mkCon_fn (fun x y h _ => c45_inj x y h) (l : (List TThing)) (by simp [nz, nz1, ML_nil, encLTThing]) rfl
@[simp] theorem c45_fn1 (s_l : Nat) (z_l : D) : c45.fn [.sl false s_l z_l []] [] = some ((fun (l : List TThing) => l.length ≤ 20) [], (fun (l : List TThing) => (encLTThing (sortT l l.length) : D)) [], (fun (l : List TThing) => []) []) :=
  mkCon_fn (fun x y h _ => c45_inj x y h) ([] : (List TThing)) (by simp [nz, nz1, ML_nil, encLTThing]) rfl
theorem c45_pc (l : List TThing) (hpre : l.length ≤ 20) : PCo Try.prog 45 [encLTThing l] (Tab.of []) (encLTThing (sortT l l.length)) (Tab.of []) := by
  refine pco_of_run [] (E := ⟨[c62, c63, c64, c64], [], []⟩) (m := false) (base := 0) (Env.ok_cons c62_ok (Env.ok_cons c63_ok (Env.ok_cons c64_ok (Env.ok_cons c64_ok Env.ok_nil)))) G_ok mix 300 6 Try.func45 (by kernel_rfl) rfl (by kernel_rfl) (by kernel_rfl) rfl ?_
  simp [Try.f45]
  have hsl : (sortT l l.length).length = l.length := sortK_len l _
  rw [hsl]
  exact ⟨by omega, hpre, Nat.le_refl _, fun h => absurd rfl h⟩
theorem c45_ok : c45.ok Try.prog := mkCon_ok fun l hpre => c45_pc l hpre
/-- loop.example/g03007/spec.l15Sorted -/
noncomputable def c41 : Con := mkCon 41 false (α := (List TThing)) (fun x => (fun (l : List TThing) => [encLTThing l]) x) (fun _ => []) (fun x => (fun (l : List TThing) => l.length ≤ 1048576) x) (fun x => (fun (l : List TThing) => (encLTThing (sortT l l.length) : D)) x) (fun x => (fun (l : List TThing) => []) x)
@[simp] theorem c41_f : c41.f = 41 := rfl
@[simp] theorem c41_own : c41.own = false := rfl
theorem c41_inj : ∀ u_ v_ : (List TThing), ((fun x => (fun (l : List TThing) => [encLTThing l]) x) u_).map nz = ((fun x => (fun (l : List TThing) => [encLTThing l]) x) v_).map nz → u_ = v_ := by
  intro u_ v_ h
  obtain l := u_
  obtain l' := v_
  simp [nz_lit, nz1_lit, nz_agg, nz_sl, nz1_sl, encLTThing] at h
  first | (simp [h]; done) | (obtain ⟨⟩ := h; simp_all; done) | simp_all
@[simp] theorem c41_fn (l : List TThing) : c41.fn [.sl false 5 yTThing (ML encTThing l)] [] = some ((fun (l : List TThing) => l.length ≤ 1048576) l, (fun (l : List TThing) => (encLTThing (sortT l l.length) : D)) l, (fun (l : List TThing) => []) l) :=
  mkCon_fn (fun x y h _ => c41_inj x y h) (l : (List TThing)) (by simp [nz, nz1, ML_nil, encLTThing]) rfl
@[simp] theorem c41_fn1 (s_l : Nat) (z_l : D) : c41.fn [.sl false s_l z_l []] [] = some ((fun (l : List TThing) => l.length ≤ 1048576) [], (fun (l : List TThing) => (encLTThing (sortT l l.length) : D)) [], (fun (l : List TThing) => []) []) :=
  mkCon_fn (fun x y h _ => c41_inj x y h) ([] : (List TThing)) (by simp [nz, nz1, ML_nil, encLTThing]) rfl
theorem c41_pc (l : List TThing) (hpre : l.length ≤ 1048576) : PCo Try.prog 41 [encLTThing l] (Tab.of []) (encLTThing (sortT l l.length)) (Tab.of []) := by
  refine pco_of_run [1008] (E := ⟨[], [], []⟩) (m := false) (base := 0) Env.ok_nil G_ok mix 300 6 Try.func41 (by kernel_rfl) rfl (by kernel_rfl) (by kernel_rfl) rfl ?_
  simp [Try.f41]
  refine loop_inv (fun i : Nat => i ≤ l.length) (fun i => [(0, encLTThing l), (3, .own (0, 1) 5 0 i), (4, dI i)]) (fun i => [((0, 1), .arr false 5 yTThing (ML encTThing (sortT l i)))]) 2 (fun i => l.length - i) 0 400 (by simp) (by simp) (by simp; rfl) ?_
  intro i hi
  have hPl : (sortT l i).length = i := sortK_len l i
  simp
  refine ⟨fun hlt => ?_, fun hge => ?_⟩
  · refine loop_inv (fun j : Nat => j ≤ i ∧ cutF ltT default (l[i]?.getD default) (sortT l i) i = cutF ltT default (l[i]?.getD default) (sortT l i) j) (fun j => [(0, encLTThing l), (3, .own (0, 1) 5 0 i), (4, dI i), (5, dI j)]) (fun j => [((0, 1), .arr false 5 yTThing (ML encTThing (sortT l i)))]) 2 (fun j => j) i 400 (by simp) (by simp) (by simp) ?_
    intro j ⟨hj, hc⟩
    have hstep : cutF ltT default (l[i]?.getD default) (sortT l i) i = j → (sortT l i).take j ++ (l[i]?.getD default) :: (sortT l i).drop j = sortT l (i + 1) := fun h => by
      have e : sortT l (i + 1) = insK ltT default (l[i]?.getD default) (sortT l i) := rfl
      rw [e, insK, hPl, h]
    cases j with
    | zero =>
      have hs := hstep (by rw [hc]; rfl)
      simp at hs
      simp [hPl]
      refine ⟨by omega, by omega, Again.mk (i + 1) (by omega) (by simp [← hs]; exact List.take_of_length_le (by omega)) (by omega)⟩
    | succ j =>
      have e1 : ((j : Int) + 1 - 1).toNat = j := by omega
      have hcs : cutF ltT default (l[i]?.getD default) (sortT l i) (j + 1) = if ltT (l[i]?.getD default) ((sortT l i)[j]?.getD default) then cutF ltT default (l[i]?.getD default) (sortT l i) j else j + 1 := rfl
      have hld : ltT (l[i]?.getD default) ((sortT l i)[j]?.getD default) = decide (((sortT l i)[j]?.getD default).Size < (l[i]?.getD default).Size) := rfl
      simp [e1, hPl]
      refine ⟨by omega, fun hw => ⟨by omega, Again.mk j ⟨by omega, by rw [hc, hcs, if_pos (by rw [hld]; simpa using hw)]⟩ (by simp) (by first | omega | (simp; omega))⟩, fun hw => ?_⟩
      have hw2 : ¬ ((sortT l i)[j]?.getD default).Size < (l[i]?.getD default).Size := by omega
      have hs := hstep (by rw [hc, hcs, if_neg (by rw [hld]; simpa using hw2)])
      refine ⟨by omega, by omega, Again.mk (i + 1) (by omega) (by
        simp
        refine ⟨by omega, ?_⟩
        rw [List.take_of_length_le (l := List.drop (j + 1) (sortT l i)) (by simp; omega)]
        exact hs) (by omega)⟩
  · have : i = l.length := by omega
    subst this
    simp [hPl]
theorem c41_ok : c41.ok Try.prog := mkCon_ok fun l hpre => c41_pc l hpre

end Go.Proofs.Ytdemoobiiijmoaa
