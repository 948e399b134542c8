/- Contracts of the functions that the laws run. -/
import Derived.Test.Ytpnfkjbnhholfaaheap
import Derived.Test.Ytpnfkjbnhholfaach14
import Derived.Test.YtpnfkjbnhholfaaEngB
namespace Go.Proofs.Ytpnfkjbnhholfaa
open Go Go.Eng
set_option linter.unusedSimpArgs false
set_option linter.unusedVariables false
set_option maxRecDepth 10000
set_option maxHeartbeats 1000000
def lsF (a b : TFreeSlot) : Bool := if a.size_ = b.size_ then decide (a.index_ < b.index_) else decide (a.size_ < b.size_)
theorem lsO : OrdH lsF where
  tr a b c h1 h2 := by
    simp only [lsF] at *
    repeat' split at h1
    all_goals repeat' split at h2
    all_goals (try split)
    all_goals simp at *
    all_goals omega
  asym a b h := by
    simp only [lsF] at *
    repeat' split at h
    all_goals (try split)
    all_goals simp at *
    all_goals omega
theorem lsF_iff (a b : TFreeSlot) : lsF a b = false ↔ (b.size_ < a.size_ ∨ (b.size_ = a.size_ ∧ b.index_ ≤ a.index_)) := by
  simp only [lsF]; split <;> simp <;> omega
abbrev dF : TFreeSlot := default
abbrev swF (l : List TFreeSlot) (i j : Nat) : List TFreeSlot := swapL dF l i j
/-- (loop.example/g03007/impl.sizeHeap).Len -/
noncomputable def c170 : Con := mkCon 170 false (α := (List TFreeSlot)) (fun x => (fun (l : List TFreeSlot) => [encLTFreeSlot l]) x) (fun _ => []) (fun x => (fun (l : List TFreeSlot) => True) x) (fun x => (fun (l : List TFreeSlot) => (dI l.length : D)) x) (fun x => (fun (l : List TFreeSlot) => []) x)
@[simp] theorem c170_f : c170.f = 170 := rfl
@[simp] theorem c170_own : c170.own = false := rfl
theorem c170_inj : ∀ u_ v_ : (List TFreeSlot), ((fun x => (fun (l : List TFreeSlot) => [encLTFreeSlot l]) x) u_).map nz = ((fun x => (fun (l : List TFreeSlot) => [encLTFreeSlot l]) x) v_).map nz → u_ = v_ := by
  intro u_ v_ h
  obtain l := u_
  obtain l' := v_
  simp [nz_lit, nz1_lit, nz_agg, nz_sl, nz1_sl, encLTFreeSlot] at h
  first | (simp [h]; done) | (obtain ⟨⟩ := h; simp_all; done) | simp_all
@[simp] theorem c170_fn (l : List TFreeSlot) : c170.fn [.sl false 2 yTFreeSlot (ML encTFreeSlot l)] [] = some ((fun (l : List TFreeSlot) => True) l, (fun (l : List TFreeSlot) => (dI l.length : D)) l, (fun (l : List TFreeSlot) => []) l) :=
  mkCon_fn (fun x y h _ => c170_inj x y h) (l : (List TFreeSlot)) (by simp [nz, nz1, ML_nil, encLTFreeSlot]) rfl
@[simp] theorem c170_fn1 (s_l : Nat) (z_l : D) : c170.fn [.sl false s_l z_l []] [] = some ((fun (l : List TFreeSlot) => True) [], (fun (l : List TFreeSlot) => (dI l.length : D)) [], (fun (l : List TFreeSlot) => []) []) :=
  mkCon_fn (fun x y h _ => c170_inj x y h) ([] : (List TFreeSlot)) (by simp [nz, nz1, ML_nil, encLTFreeSlot]) rfl
theorem c170_pc (l : List TFreeSlot) : PCo Try.prog 170 [encLTFreeSlot l] (Tab.of []) (dI l.length) (Tab.of []) := by
  refine pco_of_run [] (E := ⟨[], [], []⟩) (m := false) (base := 0) Env.ok_nil G_ok mix 300 6 Try.func170 (by kernel_rfl) rfl (by kernel_rfl) (by kernel_rfl) rfl ?_
  simp [Try.f170]
  all_goals first | omega | (rw [Bool.eq_iff_iff]; simp; omega) | grind
theorem c170_ok : c170.ok Try.prog := mkCon_ok fun l hpre => c170_pc l
/-- (loop.example/g03007/impl.sizeHeap).Less -/
noncomputable def c271 : Con := mkCon 271 false (α := (List TFreeSlot) × Int × Int) (fun x => (fun (l : List TFreeSlot) (i : Int) (j : Int) => [encLTFreeSlot l, dI i, dI j]) x.1 x.2.1 x.2.2) (fun _ => []) (fun x => (fun (l : List TFreeSlot) (i : Int) (j : Int) => 0 ≤ i ∧ i < l.length ∧ 0 ≤ j ∧ j < l.length) x.1 x.2.1 x.2.2) (fun x => (fun (l : List TFreeSlot) (i : Int) (j : Int) => (dB (lsF (l[i.toNat]?.getD default) (l[j.toNat]?.getD default)) : D)) x.1 x.2.1 x.2.2) (fun x => (fun (l : List TFreeSlot) (i : Int) (j : Int) => []) x.1 x.2.1 x.2.2)
@[simp] theorem c271_f : c271.f = 271 := rfl
@[simp] theorem c271_own : c271.own = false := rfl
theorem c271_inj : ∀ u_ v_ : (List TFreeSlot) × Int × Int, ((fun x => (fun (l : List TFreeSlot) (i : Int) (j : Int) => [encLTFreeSlot l, dI i, dI j]) x.1 x.2.1 x.2.2) u_).map nz = ((fun x => (fun (l : List TFreeSlot) (i : Int) (j : Int) => [encLTFreeSlot l, dI i, dI j]) x.1 x.2.1 x.2.2) v_).map nz → u_ = v_ := by
  intro u_ v_ h
  obtain ⟨l, i, j⟩ := u_
  obtain ⟨l', i', j'⟩ := v_
  simp [nz_lit, nz1_lit, nz_agg, nz_sl, nz1_sl, encLTFreeSlot] at h
  first | (simp [h]; done) | (obtain ⟨⟩ := h; simp_all; done) | simp_all
@[simp] theorem c271_fn (l : List TFreeSlot) (i : Int) (j : Int) : c271.fn [.sl false 2 yTFreeSlot (ML encTFreeSlot l), .lit (.int .i64 i), .lit (.int .i64 j)] [] = some ((fun (l : List TFreeSlot) (i : Int) (j : Int) => 0 ≤ i ∧ i < l.length ∧ 0 ≤ j ∧ j < l.length) l i j, (fun (l : List TFreeSlot) (i : Int) (j : Int) => (dB (lsF (l[i.toNat]?.getD default) (l[j.toNat]?.getD default)) : D)) l i j, (fun (l : List TFreeSlot) (i : Int) (j : Int) => []) l i j) :=
  mkCon_fn (fun x y h _ => c271_inj x y h) ((l, i, j) : (List TFreeSlot) × Int × Int) (by simp [nz, nz1, ML_nil, encLTFreeSlot]) rfl
@[simp] theorem c271_fn1 (s_l : Nat) (z_l : D) (i : Int) (j : Int) : c271.fn [.sl false s_l z_l [], .lit (.int .i64 i), .lit (.int .i64 j)] [] = some ((fun (l : List TFreeSlot) (i : Int) (j : Int) => 0 ≤ i ∧ i < l.length ∧ 0 ≤ j ∧ j < l.length) [] i j, (fun (l : List TFreeSlot) (i : Int) (j : Int) => (dB (lsF (l[i.toNat]?.getD default) (l[j.toNat]?.getD default)) : D)) [] i j, (fun (l : List TFreeSlot) (i : Int) (j : Int) => []) [] i j) :=
  mkCon_fn (fun x y h _ => c271_inj x y h) (([], i, j) : (List TFreeSlot) × Int × Int) (by simp [nz, nz1, ML_nil, encLTFreeSlot]) rfl
theorem c271_pc (l : List TFreeSlot) (i : Int) (j : Int) (hpre : 0 ≤ i ∧ i < l.length ∧ 0 ≤ j ∧ j < l.length) : PCo Try.prog 271 [encLTFreeSlot l, dI i, dI j] (Tab.of []) (dB (lsF (l[i.toNat]?.getD default) (l[j.toNat]?.getD default))) (Tab.of []) := by
  refine pco_of_run [] (E := ⟨[], [], []⟩) (m := false) (base := 0) Env.ok_nil G_ok mix 300 6 Try.func271 (by kernel_rfl) rfl (by kernel_rfl) (by kernel_rfl) rfl ?_
  simp [Try.f271]
  repeat' (first | omega | refine And.intro ?_ ?_ | intro _)
  all_goals simp_all [lsF]
theorem c271_ok : c271.ok Try.prog := mkCon_ok fun ⟨l, i, j⟩ hpre => c271_pc l i j hpre
/-- (loop.example/g03007/impl.sizeHeap).Swap -/
noncomputable def c274 : Con := mkCon 274 true (α := (List TFreeSlot) × Nat × Int × Int) (fun x => (fun (l : List TFreeSlot) (n : Nat) (i : Int) (j : Int) => ([.own (0, 0) 2 0 n, dI i, dI j] : List D)) x.1 x.2.1 x.2.2.1 x.2.2.2) (fun x => (fun (l : List TFreeSlot) (n : Nat) (i : Int) (j : Int) => ([((0, 0), .arr false 2 yTFreeSlot (ML encTFreeSlot l))] : List (Nm × OO))) x.1 x.2.1 x.2.2.1 x.2.2.2) (fun x => (fun (l : List TFreeSlot) (n : Nat) (i : Int) (j : Int) => n ≤ l.length ∧ 0 ≤ i ∧ i < n ∧ 0 ≤ j ∧ j < n) x.1 x.2.1 x.2.2.1 x.2.2.2) (fun x => (fun (l : List TFreeSlot) (n : Nat) (i : Int) (j : Int) => (.tup [] : D)) x.1 x.2.1 x.2.2.1 x.2.2.2) (fun x => (fun (l : List TFreeSlot) (n : Nat) (i : Int) (j : Int) => ([((0, 0), .arr false 2 yTFreeSlot (ML encTFreeSlot (swF l i.toNat j.toNat)))] : List (Nm × OO))) x.1 x.2.1 x.2.2.1 x.2.2.2)
@[simp] theorem c274_f : c274.f = 274 := rfl
@[simp] theorem c274_own : c274.own = true := rfl
theorem c274_inj : ∀ u_ v_ : (List TFreeSlot) × Nat × Int × Int, ((fun x => (fun (l : List TFreeSlot) (n : Nat) (i : Int) (j : Int) => ([.own (0, 0) 2 0 n, dI i, dI j] : List D)) x.1 x.2.1 x.2.2.1 x.2.2.2) u_).map nz = ((fun x => (fun (l : List TFreeSlot) (n : Nat) (i : Int) (j : Int) => ([.own (0, 0) 2 0 n, dI i, dI j] : List D)) x.1 x.2.1 x.2.2.1 x.2.2.2) v_).map nz → (fun x => (fun (l : List TFreeSlot) (n : Nat) (i : Int) (j : Int) => ([((0, 0), .arr false 2 yTFreeSlot (ML encTFreeSlot l))] : List (Nm × OO))) x.1 x.2.1 x.2.2.1 x.2.2.2) u_ = (fun x => (fun (l : List TFreeSlot) (n : Nat) (i : Int) (j : Int) => ([((0, 0), .arr false 2 yTFreeSlot (ML encTFreeSlot l))] : List (Nm × OO))) x.1 x.2.1 x.2.2.1 x.2.2.2) v_ → u_ = v_ := by
  intro u_ v_ h h2_
  obtain ⟨l, n, i, j⟩ := u_
  obtain ⟨l', n', i', j'⟩ := v_
  simp [nz_lit, nz1_lit, nz_agg, nz_sl, nz1_sl, nz_sx, nz_el, nz1_el, nz_own, nz1_own, nz_ptr, nz_fn, nz_iface] at h h2_
  first | (simp [h, h2_]; done) | (obtain ⟨h3_, h4_⟩ := List.append_inj h2_ h.1; simp_all; done) | simp_all | grind
@[simp] theorem c274_fn (l : List TFreeSlot) (n : Nat) (i : Int) (j : Int) : c274.fn ([.own (0, 0) 2 0 n, dI i, dI j]) ([((0, 0), .arr false 2 yTFreeSlot (ML encTFreeSlot l))]) = some (n ≤ l.length ∧ 0 ≤ i ∧ i < n ∧ 0 ≤ j ∧ j < n, .tup [], [((0, 0), .arr false 2 yTFreeSlot (ML encTFreeSlot (swF l i.toNat j.toNat)))]) :=
  mkCon_fn c274_inj ((l, n, i, j) : (List TFreeSlot) × Nat × Int × Int) rfl rfl
theorem c274_pc (l : List TFreeSlot) (n : Nat) (i : Int) (j : Int) (hpre : n ≤ l.length ∧ 0 ≤ i ∧ i < n ∧ 0 ≤ j ∧ j < n) : PCo Try.prog 274 ([.own (0, 0) 2 0 n, dI i, dI j]) (Tab.of ([((0, 0), .arr false 2 yTFreeSlot (ML encTFreeSlot l))])) (.tup []) (Tab.of ([((0, 0), .arr false 2 yTFreeSlot (ML encTFreeSlot (swF l i.toNat j.toNat)))])) := by
  refine pco_of_run [] (E := ⟨[], [], []⟩) (m := false) (base := 0) Env.ok_nil G_ok mix 300 6 Try.func274 (by kernel_rfl) rfl (by kernel_rfl) (by kernel_rfl) rfl ?_
  simp [Try.f274]
  obtain ⟨h1, h2⟩ := hpre
  refine ⟨?_, rfl⟩
  repeat' (first | omega | refine And.intro ?_ ?_ | intro _)
theorem c274_ok : c274.ok Try.prog := mkCon_ok fun ⟨l, n, i, j⟩ hpre => c274_pc l n i j hpre
/-- (*loop.example/g03007/impl.sizeHeap).Push -/
noncomputable def c273 : Con := mkCon 273 true (α := (List TFreeSlot) × TFreeSlot) (fun x => (fun (l : List TFreeSlot) (x : TFreeSlot) => ([.ptr (0, 0) 0, .iface 230 (encTFreeSlot x)] : List D)) x.1 x.2) (fun x => (fun (l : List TFreeSlot) (x : TFreeSlot) => ([((0, 0), .box (.own (1, 0) 2 0 l.length)), ((1, 0), .arr false 2 yTFreeSlot (ML encTFreeSlot l))] : List (Nm × OO))) x.1 x.2) (fun x => (fun (l : List TFreeSlot) (x : TFreeSlot) => l.length ≤ 1073741824) x.1 x.2) (fun x => (fun (l : List TFreeSlot) (x : TFreeSlot) => (.tup [] : D)) x.1 x.2) (fun x => (fun (l : List TFreeSlot) (x : TFreeSlot) => ([((0, 0), .box (.own (0, 1) 2 0 (l.length + 1))), ((0, 1), .arr false 2 yTFreeSlot (ML encTFreeSlot (l ++ [x])))] : List (Nm × OO))) x.1 x.2)
@[simp] theorem c273_f : c273.f = 273 := rfl
@[simp] theorem c273_own : c273.own = true := rfl
theorem c273_inj : ∀ u_ v_ : (List TFreeSlot) × TFreeSlot, ((fun x => (fun (l : List TFreeSlot) (x : TFreeSlot) => ([.ptr (0, 0) 0, .iface 230 (encTFreeSlot x)] : List D)) x.1 x.2) u_).map nz = ((fun x => (fun (l : List TFreeSlot) (x : TFreeSlot) => ([.ptr (0, 0) 0, .iface 230 (encTFreeSlot x)] : List D)) x.1 x.2) v_).map nz → (fun x => (fun (l : List TFreeSlot) (x : TFreeSlot) => ([((0, 0), .box (.own (1, 0) 2 0 l.length)), ((1, 0), .arr false 2 yTFreeSlot (ML encTFreeSlot l))] : List (Nm × OO))) x.1 x.2) u_ = (fun x => (fun (l : List TFreeSlot) (x : TFreeSlot) => ([((0, 0), .box (.own (1, 0) 2 0 l.length)), ((1, 0), .arr false 2 yTFreeSlot (ML encTFreeSlot l))] : List (Nm × OO))) x.1 x.2) v_ → u_ = v_ := by
  intro u_ v_ h h2_
  obtain ⟨l, ⟨x_size_, x_index_⟩⟩ := u_
  obtain ⟨l', ⟨x_size_', x_index_'⟩⟩ := v_
  simp [nz_lit, nz1_lit, nz_agg, nz_sl, nz1_sl, nz_sx, nz_el, nz1_el, nz_own, nz1_own, nz_ptr, nz_fn, nz_iface] at h h2_
  first | (simp [h, h2_]; done) | (obtain ⟨h3_, h4_⟩ := List.append_inj h2_ h.1; simp_all; done) | simp_all | grind
@[simp] theorem c273_fn (l : List TFreeSlot) (x_size_ : Int) (x_index_ : Int) : c273.fn ([.ptr (0, 0) 0, .iface 230 (.agg [.lit (.int .i64 x_size_), .lit (.int .i64 x_index_)])]) ([((0, 0), .box (.own (1, 0) 2 0 l.length)), ((1, 0), .arr false 2 yTFreeSlot (ML encTFreeSlot l))]) = some (l.length ≤ 1073741824, .tup [], [((0, 0), .box (.own (0, 1) 2 0 (l.length + 1))), ((0, 1), .arr false 2 yTFreeSlot (ML encTFreeSlot (l ++ [(⟨x_size_, x_index_⟩ : TFreeSlot)])))]) :=
  mkCon_fn c273_inj ((l, ⟨x_size_, x_index_⟩) : (List TFreeSlot) × TFreeSlot) rfl rfl
theorem c273_pc (l : List TFreeSlot) (x : TFreeSlot) (hpre : l.length ≤ 1073741824) : PCo Try.prog 273 ([.ptr (0, 0) 0, .iface 230 (encTFreeSlot x)]) (Tab.of ([((0, 0), .box (.own (1, 0) 2 0 l.length)), ((1, 0), .arr false 2 yTFreeSlot (ML encTFreeSlot l))])) (.tup []) (Tab.of ([((0, 0), .box (.own (0, 1) 2 0 (l.length + 1))), ((0, 1), .arr false 2 yTFreeSlot (ML encTFreeSlot (l ++ [x])))])) := by
  refine pco_of_run [] (E := ⟨[], [], []⟩) (m := false) (base := 0) Env.ok_nil G_ok mix 300 6 Try.func273 (by kernel_rfl) rfl (by kernel_rfl) (by kernel_rfl) rfl ?_
  simp [Try.f273]
  omega
theorem c273_ok : c273.ok Try.prog := mkCon_ok fun ⟨l, x⟩ hpre => c273_pc l x hpre
/-- (*loop.example/g03007/impl.sizeHeap).Pop -/
noncomputable def c272 : Con := mkCon 272 true (α := (List TFreeSlot) × Nat) (fun x => (fun (l : List TFreeSlot) (n : Nat) => ([.ptr (0, 0) 0] : List D)) x.1 x.2) (fun x => (fun (l : List TFreeSlot) (n : Nat) => ([((0, 0), .box (.own (1, 0) 2 0 n)), ((1, 0), .arr false 2 yTFreeSlot (ML encTFreeSlot l))] : List (Nm × OO))) x.1 x.2) (fun x => (fun (l : List TFreeSlot) (n : Nat) => n ≤ l.length ∧ 0 < n ∧ n ≤ 1073741824) x.1 x.2) (fun x => (fun (l : List TFreeSlot) (n : Nat) => (.iface 230 (encTFreeSlot (l[n - 1]?.getD default)) : D)) x.1 x.2) (fun x => (fun (l : List TFreeSlot) (n : Nat) => ([((0, 0), .box (.own (1, 0) 2 0 (n - 1))), ((1, 0), .arr false 2 yTFreeSlot (ML encTFreeSlot l))] : List (Nm × OO))) x.1 x.2)
@[simp] theorem c272_f : c272.f = 272 := rfl
@[simp] theorem c272_own : c272.own = true := rfl
theorem c272_inj : ∀ u_ v_ : (List TFreeSlot) × Nat, ((fun x => (fun (l : List TFreeSlot) (n : Nat) => ([.ptr (0, 0) 0] : List D)) x.1 x.2) u_).map nz = ((fun x => (fun (l : List TFreeSlot) (n : Nat) => ([.ptr (0, 0) 0] : List D)) x.1 x.2) v_).map nz → (fun x => (fun (l : List TFreeSlot) (n : Nat) => ([((0, 0), .box (.own (1, 0) 2 0 n)), ((1, 0), .arr false 2 yTFreeSlot (ML encTFreeSlot l))] : List (Nm × OO))) x.1 x.2) u_ = (fun x => (fun (l : List TFreeSlot) (n : Nat) => ([((0, 0), .box (.own (1, 0) 2 0 n)), ((1, 0), .arr false 2 yTFreeSlot (ML encTFreeSlot l))] : List (Nm × OO))) x.1 x.2) v_ → u_ = v_ := by
  intro u_ v_ h h2_
  obtain ⟨l, n⟩ := u_
  obtain ⟨l', n'⟩ := v_
  simp [nz_lit, nz1_lit, nz_agg, nz_sl, nz1_sl, nz_sx, nz_el, nz1_el, nz_own, nz1_own, nz_ptr, nz_fn, nz_iface] at h h2_
  first | (simp [h, h2_]; done) | (obtain ⟨h3_, h4_⟩ := List.append_inj h2_ h.1; simp_all; done) | simp_all | grind
@[simp] theorem c272_fn (l : List TFreeSlot) (n : Nat) : c272.fn ([.ptr (0, 0) 0]) ([((0, 0), .box (.own (1, 0) 2 0 n)), ((1, 0), .arr false 2 yTFreeSlot (ML encTFreeSlot l))]) = some (n ≤ l.length ∧ 0 < n ∧ n ≤ 1073741824, .iface 230 (encTFreeSlot (l[n - 1]?.getD default)), [((0, 0), .box (.own (1, 0) 2 0 (n - 1))), ((1, 0), .arr false 2 yTFreeSlot (ML encTFreeSlot l))]) :=
  mkCon_fn c272_inj ((l, n) : (List TFreeSlot) × Nat) rfl rfl
theorem c272_pc (l : List TFreeSlot) (n : Nat) (hpre : n ≤ l.length ∧ 0 < n ∧ n ≤ 1073741824) : PCo Try.prog 272 ([.ptr (0, 0) 0]) (Tab.of ([((0, 0), .box (.own (1, 0) 2 0 n)), ((1, 0), .arr false 2 yTFreeSlot (ML encTFreeSlot l))])) (.iface 230 (encTFreeSlot (l[n - 1]?.getD default))) (Tab.of ([((0, 0), .box (.own (1, 0) 2 0 (n - 1))), ((1, 0), .arr false 2 yTFreeSlot (ML encTFreeSlot l))])) := by
  refine pco_of_run [] (E := ⟨[], [], []⟩) (m := false) (base := 0) Env.ok_nil G_ok mix 300 6 Try.func272 (by kernel_rfl) rfl (by kernel_rfl) (by kernel_rfl) rfl ?_
  simp [Try.f272]
  obtain ⟨h1, h2, h3⟩ := hpre
  repeat' (first | omega | refine And.intro ?_ ?_ | intro _)
theorem c272_ok : c272.ok Try.prog := mkCon_ok fun ⟨l, n⟩ hpre => c272_pc l n hpre
theorem half_eq (j : Nat) : ((j : Int) - 1).tdiv 2 = (((j - 1) / 2 : Nat) : Int) := by
  cases j with
  | zero => rfl
  | succ j =>
    rw [Int.tdiv_eq_ediv_of_nonneg (by omega)]
    omega
theorem viewF (n : Nat) (q : List TFreeSlot) (h : n ≤ q.length) : (if n = q.length then q else List.take n q).length = n ∧ ∀ k, k < n → (if n = q.length then q else List.take n q)[k]?.getD default = q[k]?.getD default := by
  split
  · rename_i e; subst e; exact ⟨rfl, fun _ _ => rfl⟩
  · refine ⟨by simp [h], fun k hk => by rw [List.getElem?_take_of_lt hk]⟩
/-- container/heap.up -/
noncomputable def c205 : Con := mkCon 205 true (α := (List TFreeSlot) × Nat × Int) (fun x => (fun (l : List TFreeSlot) (n : Nat) (j : Int) => ([.iface 225 (.ptr (0, 0) 0), dI j] : List D)) x.1 x.2.1 x.2.2) (fun x => (fun (l : List TFreeSlot) (n : Nat) (j : Int) => ([((0, 0), .box (.own (1, 0) 2 0 n)), ((1, 0), .arr false 2 yTFreeSlot (ML encTFreeSlot l))] : List (Nm × OO))) x.1 x.2.1 x.2.2) (fun x => (fun (l : List TFreeSlot) (n : Nat) (j : Int) => n ≤ l.length ∧ 0 ≤ j ∧ j < n ∧ n ≤ 1073741824) x.1 x.2.1 x.2.2) (fun x => (fun (l : List TFreeSlot) (n : Nat) (j : Int) => (.tup [] : D)) x.1 x.2.1 x.2.2) (fun x => (fun (l : List TFreeSlot) (n : Nat) (j : Int) => ([((0, 0), .box (.own (1, 0) 2 0 n)), ((1, 0), .arr false 2 yTFreeSlot (ML encTFreeSlot (upH lsF dF l j.toNat)))] : List (Nm × OO))) x.1 x.2.1 x.2.2)
@[simp] theorem c205_f : c205.f = 205 := rfl
@[simp] theorem c205_own : c205.own = true := rfl
theorem c205_inj : ∀ u_ v_ : (List TFreeSlot) × Nat × Int, ((fun x => (fun (l : List TFreeSlot) (n : Nat) (j : Int) => ([.iface 225 (.ptr (0, 0) 0), dI j] : List D)) x.1 x.2.1 x.2.2) u_).map nz = ((fun x => (fun (l : List TFreeSlot) (n : Nat) (j : Int) => ([.iface 225 (.ptr (0, 0) 0), dI j] : List D)) x.1 x.2.1 x.2.2) v_).map nz → (fun x => (fun (l : List TFreeSlot) (n : Nat) (j : Int) => ([((0, 0), .box (.own (1, 0) 2 0 n)), ((1, 0), .arr false 2 yTFreeSlot (ML encTFreeSlot l))] : List (Nm × OO))) x.1 x.2.1 x.2.2) u_ = (fun x => (fun (l : List TFreeSlot) (n : Nat) (j : Int) => ([((0, 0), .box (.own (1, 0) 2 0 n)), ((1, 0), .arr false 2 yTFreeSlot (ML encTFreeSlot l))] : List (Nm × OO))) x.1 x.2.1 x.2.2) v_ → u_ = v_ := by
  intro u_ v_ h h2_
  obtain ⟨l, n, j⟩ := u_
  obtain ⟨l', n', j'⟩ := v_
  simp [nz_lit, nz1_lit, nz_agg, nz_sl, nz1_sl, nz_sx, nz_el, nz1_el, nz_own, nz1_own, nz_ptr, nz_fn, nz_iface] at h h2_
  first | (simp [h, h2_]; done) | (obtain ⟨h3_, h4_⟩ := List.append_inj h2_ h.1; simp_all; done) | simp_all | grind
@[simp] theorem c205_fn (l : List TFreeSlot) (n : Nat) (j : Int) : c205.fn ([.iface 225 (.ptr (0, 0) 0), dI j]) ([((0, 0), .box (.own (1, 0) 2 0 n)), ((1, 0), .arr false 2 yTFreeSlot (ML encTFreeSlot l))]) = some (n ≤ l.length ∧ 0 ≤ j ∧ j < n ∧ n ≤ 1073741824, .tup [], [((0, 0), .box (.own (1, 0) 2 0 n)), ((1, 0), .arr false 2 yTFreeSlot (ML encTFreeSlot (upH lsF dF l j.toNat)))]) :=
  mkCon_fn c205_inj ((l, n, j) : (List TFreeSlot) × Nat × Int) rfl rfl
theorem c205_pc (l : List TFreeSlot) (n : Nat) (j : Int) (hpre : n ≤ l.length ∧ 0 ≤ j ∧ j < n ∧ n ≤ 1073741824) : PCo Try.prog 205 ([.iface 225 (.ptr (0, 0) 0), dI j]) (Tab.of ([((0, 0), .box (.own (1, 0) 2 0 n)), ((1, 0), .arr false 2 yTFreeSlot (ML encTFreeSlot l))])) (.tup []) (Tab.of ([((0, 0), .box (.own (1, 0) 2 0 n)), ((1, 0), .arr false 2 yTFreeSlot (ML encTFreeSlot (upH lsF dF l j.toNat)))])) := by
  refine pco_of_run [] (E := ⟨[c271, c274], [], [(225, "Less", 271, 227), (225, "Swap", 274, 227)]⟩) (m := false) (base := 0) (Env.ok_cons c271_ok (Env.ok_cons c274_ok (Env.ok_md (methd_of (by kernel_rfl) (by kernel_rfl)) (Env.ok_md (methd_of (by kernel_rfl) (by kernel_rfl)) Env.ok_nil)))) G_ok mix 300 6 Try.func205 (by kernel_rfl) rfl (by kernel_rfl) (by kernel_rfl) rfl ?_
  simp [Try.f205]
  obtain ⟨h1, h0, h2, h3⟩ := hpre
  obtain ⟨j, rfl⟩ := Int.eq_ofNat_of_zero_le h0
  simp only [Int.toNat_natCast]
  refine loop_inv (fun q : Nat × List TFreeSlot => q.1 < n ∧ q.2.length = l.length ∧ upH lsF dF l j = upH lsF dF q.2 q.1) (fun q => [(0, .iface 225 (.ptr (0, 0) 0)), (1, dI q.1)]) (fun q => [((0, 0), .box (.own (1, 0) 2 0 n)), ((1, 0), .arr false 2 yTFreeSlot (ML encTFreeSlot q.2))]) 2 (fun q => q.1) (j, l) 400 (by simp) (by simp; omega) (by simp) ?_
  intro ⟨p, q⟩ ⟨hp, hq, he⟩
  simp only at hp hq he
  have hh := half_eq p
  generalize upH lsF dF l j = U at he ⊢
  rw [upH] at he
  generalize hi : (p - 1) / 2 = i at hh he
  simp [hh]
  obtain ⟨hQl, hQ⟩ := viewF n q (by omega)
  generalize (if n = q.length then q else List.take n q) = Q at hQl hQ ⊢
  have hQi := hQ i
  have hQp := hQ p hp
  simp only [hQp, hQl]
  by_cases hp0 : p = 0
  · have hi0 : i = 0 := by omega
    subst hp0 hi0
    simp
    rw [he, dif_pos rfl]
  · have hne : ¬ (i : Int) = p := by omega
    have hlt : i < n := by omega
    rw [dif_neg hp0] at he
    simp [hne, hQi hlt]
    refine ⟨by omega, by omega, fun hl => ?_, fun hl => ⟨by omega, Again.mk (i, swF q i p) ⟨hlt, by simp [hq], ?_⟩ (by simp) (by simp; omega)⟩⟩
    · have hl' : lsF (atH dF q p) (atH dF q i) = false := hl
      rw [he, if_neg (by simp [hl'])]
    · have hl' : lsF (atH dF q p) (atH dF q i) = true := hl
      rw [he, if_pos hl']
theorem c205_ok : c205.ok Try.prog := mkCon_ok fun ⟨l, n, j⟩ hpre => c205_pc l n j hpre
theorem two_eq (i : Nat) : (2 : Int) * i + 1 = ((2 * i + 1 : Nat) : Int) ∧ ((2 * i + 1 : Nat) : Int) + 1 = ((2 * i + 2 : Nat) : Int) := by omega
def movH (l : List TFreeSlot) (m : Nat) : Bool := decide (1 < m) && lsF (atH dF l (minC lsF dF l m 0)) (atH dF l 0)
/-- container/heap.down -/
noncomputable def c206 : Con := mkCon 206 true (α := (List TFreeSlot) × Nat × Int) (fun x => (fun (l : List TFreeSlot) (n : Nat) (m : Int) => ([.iface 225 (.ptr (0, 0) 0), dI 0, dI m] : List D)) x.1 x.2.1 x.2.2) (fun x => (fun (l : List TFreeSlot) (n : Nat) (m : Int) => ([((0, 0), .box (.own (1, 0) 2 0 n)), ((1, 0), .arr false 2 yTFreeSlot (ML encTFreeSlot l))] : List (Nm × OO))) x.1 x.2.1 x.2.2) (fun x => (fun (l : List TFreeSlot) (n : Nat) (m : Int) => n ≤ l.length ∧ 0 ≤ m ∧ m ≤ n ∧ n ≤ 1073741824) x.1 x.2.1 x.2.2) (fun x => (fun (l : List TFreeSlot) (n : Nat) (m : Int) => (dB (movH l m.toNat) : D)) x.1 x.2.1 x.2.2) (fun x => (fun (l : List TFreeSlot) (n : Nat) (m : Int) => ([((0, 0), .box (.own (1, 0) 2 0 n)), ((1, 0), .arr false 2 yTFreeSlot (ML encTFreeSlot (downH lsF dF l m.toNat 0)))] : List (Nm × OO))) x.1 x.2.1 x.2.2)
@[simp] theorem c206_f : c206.f = 206 := rfl
@[simp] theorem c206_own : c206.own = true := rfl
theorem c206_inj : ∀ u_ v_ : (List TFreeSlot) × Nat × Int, ((fun x => (fun (l : List TFreeSlot) (n : Nat) (m : Int) => ([.iface 225 (.ptr (0, 0) 0), dI 0, dI m] : List D)) x.1 x.2.1 x.2.2) u_).map nz = ((fun x => (fun (l : List TFreeSlot) (n : Nat) (m : Int) => ([.iface 225 (.ptr (0, 0) 0), dI 0, dI m] : List D)) x.1 x.2.1 x.2.2) v_).map nz → (fun x => (fun (l : List TFreeSlot) (n : Nat) (m : Int) => ([((0, 0), .box (.own (1, 0) 2 0 n)), ((1, 0), .arr false 2 yTFreeSlot (ML encTFreeSlot l))] : List (Nm × OO))) x.1 x.2.1 x.2.2) u_ = (fun x => (fun (l : List TFreeSlot) (n : Nat) (m : Int) => ([((0, 0), .box (.own (1, 0) 2 0 n)), ((1, 0), .arr false 2 yTFreeSlot (ML encTFreeSlot l))] : List (Nm × OO))) x.1 x.2.1 x.2.2) v_ → u_ = v_ := by
  intro u_ v_ h h2_
  obtain ⟨l, n, m⟩ := u_
  obtain ⟨l', n', m'⟩ := v_
  simp [nz_lit, nz1_lit, nz_agg, nz_sl, nz1_sl, nz_sx, nz_el, nz1_el, nz_own, nz1_own, nz_ptr, nz_fn, nz_iface] at h h2_
  first | (simp [h, h2_]; done) | (obtain ⟨h3_, h4_⟩ := List.append_inj h2_ h.1; simp_all; done) | simp_all | grind
@[simp] theorem c206_fn (l : List TFreeSlot) (n : Nat) (m : Int) : c206.fn ([.iface 225 (.ptr (0, 0) 0), dI 0, dI m]) ([((0, 0), .box (.own (1, 0) 2 0 n)), ((1, 0), .arr false 2 yTFreeSlot (ML encTFreeSlot l))]) = some (n ≤ l.length ∧ 0 ≤ m ∧ m ≤ n ∧ n ≤ 1073741824, dB (movH l m.toNat), [((0, 0), .box (.own (1, 0) 2 0 n)), ((1, 0), .arr false 2 yTFreeSlot (ML encTFreeSlot (downH lsF dF l m.toNat 0)))]) :=
  mkCon_fn c206_inj ((l, n, m) : (List TFreeSlot) × Nat × Int) rfl rfl
theorem c206_pc (l : List TFreeSlot) (n : Nat) (m : Int) (hpre : n ≤ l.length ∧ 0 ≤ m ∧ m ≤ n ∧ n ≤ 1073741824) : PCo Try.prog 206 ([.iface 225 (.ptr (0, 0) 0), dI 0, dI m]) (Tab.of ([((0, 0), .box (.own (1, 0) 2 0 n)), ((1, 0), .arr false 2 yTFreeSlot (ML encTFreeSlot l))])) (dB (movH l m.toNat)) (Tab.of ([((0, 0), .box (.own (1, 0) 2 0 n)), ((1, 0), .arr false 2 yTFreeSlot (ML encTFreeSlot (downH lsF dF l m.toNat 0)))])) := by
  refine pco_of_run [] (E := ⟨[c271, c274], [], [(225, "Less", 271, 227), (225, "Swap", 274, 227)]⟩) (m := false) (base := 0) (Env.ok_cons c271_ok (Env.ok_cons c274_ok (Env.ok_md (methd_of (by kernel_rfl) (by kernel_rfl)) (Env.ok_md (methd_of (by kernel_rfl) (by kernel_rfl)) Env.ok_nil)))) G_ok mix 300 6 Try.func206 (by kernel_rfl) rfl (by kernel_rfl) (by kernel_rfl) rfl ?_
  simp [Try.f206]
  obtain ⟨h1, h0, h2, h3⟩ := hpre
  obtain ⟨m, rfl⟩ := Int.eq_ofNat_of_zero_le h0
  simp only [Int.toNat_natCast]
  refine loop_inv (fun q : Nat × List TFreeSlot => q.1 ≤ m ∧ q.2.length = l.length ∧ downH lsF dF l m 0 = downH lsF dF q.2 m q.1 ∧ ((q.1 = 0 ∧ q.2 = l) ∨ (0 < q.1 ∧ movH l m = true))) (fun q => [(0, .iface 225 (.ptr (0, 0) 0)), (1, dI 0), (2, dI m), (7, dI q.1)]) (fun q => [((0, 0), .box (.own (1, 0) 2 0 n)), ((1, 0), .arr false 2 yTFreeSlot (ML encTFreeSlot q.2))]) 2 (fun q => m - q.1) (0, l) 400 (by simp) (by simp) (by simp) ?_
  intro ⟨p, q⟩ ⟨hp, hq, he, hm⟩
  simp only at hp hq he hm
  generalize downH lsF dF l m 0 = U at he ⊢
  rw [downH] at he
  have e1 : (2 : Int) * p + 1 = ((2 * p + 1 : Nat) : Int) := by omega
  have e2 : ((2 * p + 1 : Nat) : Int) + 1 = ((2 * p + 2 : Nat) : Int) := by omega
  have hc := minC_cases (lt := lsF) (d := dF) q m p
  generalize hj1 : 2 * p + 1 = j1 at e1 e2 he hc
  generalize hj2 : 2 * p + 2 = j2 at e2
  simp [e1, e2]
  obtain ⟨hQl, hQ⟩ := viewF n q (by omega)
  generalize (if n = q.length then q else List.take n q) = Q at hQl hQ ⊢
  simp only [hQl]
  have hend : (m ≤ j1 ∨ (j1 < m ∧ lsF (atH dF q (minC lsF dF q m p)) (atH dF q p) = false)) → decide (0 < p) = movH l m ∧ q = U := by
    intro h
    have hUq : U = q := by
      rcases h with h | ⟨ha, hb⟩
      · rw [he, dif_neg (by omega)]
      · rw [he, dif_pos ha, if_neg (by simp [hb])]
    refine ⟨?_, hUq.symm⟩
    rcases hm with ⟨rfl, rfl⟩ | ⟨hp0, hmv⟩
    · rcases h with h | ⟨ha, hb⟩
      · have : ¬ 1 < m := by omega
        simp [movH, this]
      · simp [movH, hb]
    · simp [hmv, hp0]
  have hgo : j1 < m → lsF (atH dF q (minC lsF dF q m p)) (atH dF q p) = true → (fun q : Nat × List TFreeSlot => q.1 ≤ m ∧ q.2.length = l.length ∧ U = downH lsF dF q.2 m q.1 ∧ ((q.1 = 0 ∧ q.2 = l) ∨ (0 < q.1 ∧ movH l m = true))) (minC lsF dF q m p, swF q p (minC lsF dF q m p)) := by
    intro ha hb
    have hc1 := hc ha
    refine ⟨by simp only; omega, by simp [hq], by simp only; rw [he, dif_pos ha, if_pos hb], .inr ⟨by simp only; omega, ?_⟩⟩
    rcases hm with ⟨rfl, rfl⟩ | ⟨hp0, hmv⟩
    · have : 1 < m := by omega
      simp [movH, this, hb]
    · exact hmv
  refine ⟨by omega, fun h => hend (by omega), fun hj => ?_⟩
  have hc1 := hc hj
  have hQp := hQ p (by omega)
  have hQ1 := hQ j1 (by omega)
  have two : j2 < m → lsF (q[j2]?.getD default) (q[j1]?.getD default) = true → minC lsF dF q m p = j2 := fun ha hb => by
    simp only [minC, hj1, hj2]
    exact if_pos ⟨ha, hb⟩
  have one : ¬ (j2 < m ∧ lsF (q[j2]?.getD default) (q[j1]?.getD default) = true) → minC lsF dF q m p = j1 := fun ha => by
    simp only [minC, hj1, hj2]
    exact if_neg ha
  simp only [hQp, hQ1]
  have hQ2 : j2 < m → Q[j2]?.getD default = q[j2]?.getD default := fun h => hQ j2 (by omega)
  refine ⟨by omega, fun h2 => ⟨by omega, by omega, by omega⟩, fun h2 hl => ?_, fun hl => ?_⟩
  · simp only [hQ2 h2] at hl ⊢
    have hm2 := two h2 hl
    rw [hm2] at hend hgo
    refine ⟨⟨by omega, by omega, by omega⟩, fun hb => hend (.inr ⟨hj, hb⟩), fun hb => ⟨by omega, Again.mk (j2, swF q p j2) (hgo hj hb) (by simp) (by simp; omega)⟩⟩
  · have hm1 : minC lsF dF q m p = j1 := one (by
      intro ⟨ha, hb⟩
      have := hl ha
      rw [hQ2 ha, hb] at this
      cases this)
    rw [hm1] at hend hgo
    refine ⟨⟨by omega, by omega, by omega⟩, fun hb => hend (.inr ⟨hj, hb⟩), fun hb => ⟨by omega, Again.mk (j1, swF q p j1) (hgo hj hb) (by simp) (by simp; omega)⟩⟩
theorem c206_ok : c206.ok Try.prog := mkCon_ok fun ⟨l, n, m⟩ hpre => c206_pc l n m hpre
/-- container/heap.Push -/
noncomputable def c169 : Con := mkCon 169 true (α := (List TFreeSlot) × TFreeSlot) (fun x => (fun (l : List TFreeSlot) (x : TFreeSlot) => ([.iface 225 (.ptr (0, 0) 0), .iface 230 (encTFreeSlot x)] : List D)) x.1 x.2) (fun x => (fun (l : List TFreeSlot) (x : TFreeSlot) => ([((0, 0), .box (.own (1, 0) 2 0 l.length)), ((1, 0), .arr false 2 yTFreeSlot (ML encTFreeSlot l))] : List (Nm × OO))) x.1 x.2) (fun x => (fun (l : List TFreeSlot) (x : TFreeSlot) => l.length ≤ 1048576) x.1 x.2) (fun x => (fun (l : List TFreeSlot) (x : TFreeSlot) => (.tup [] : D)) x.1 x.2) (fun x => (fun (l : List TFreeSlot) (x : TFreeSlot) => ([((0, 0), .box (.own (0, 1) 2 0 (l.length + 1))), ((0, 1), .arr false 2 yTFreeSlot (ML encTFreeSlot (pushH lsF dF l x)))] : List (Nm × OO))) x.1 x.2)
@[simp] theorem c169_f : c169.f = 169 := rfl
@[simp] theorem c169_own : c169.own = true := rfl
theorem c169_inj : ∀ u_ v_ : (List TFreeSlot) × TFreeSlot, ((fun x => (fun (l : List TFreeSlot) (x : TFreeSlot) => ([.iface 225 (.ptr (0, 0) 0), .iface 230 (encTFreeSlot x)] : List D)) x.1 x.2) u_).map nz = ((fun x => (fun (l : List TFreeSlot) (x : TFreeSlot) => ([.iface 225 (.ptr (0, 0) 0), .iface 230 (encTFreeSlot x)] : List D)) x.1 x.2) v_).map nz → (fun x => (fun (l : List TFreeSlot) (x : TFreeSlot) => ([((0, 0), .box (.own (1, 0) 2 0 l.length)), ((1, 0), .arr false 2 yTFreeSlot (ML encTFreeSlot l))] : List (Nm × OO))) x.1 x.2) u_ = (fun x => (fun (l : List TFreeSlot) (x : TFreeSlot) => ([((0, 0), .box (.own (1, 0) 2 0 l.length)), ((1, 0), .arr false 2 yTFreeSlot (ML encTFreeSlot l))] : List (Nm × OO))) x.1 x.2) v_ → u_ = v_ := by
  intro u_ v_ h h2_
  obtain ⟨l, ⟨x_size_, x_index_⟩⟩ := u_
  obtain ⟨l', ⟨x_size_', x_index_'⟩⟩ := v_
  simp [nz_lit, nz1_lit, nz_agg, nz_sl, nz1_sl, nz_sx, nz_el, nz1_el, nz_own, nz1_own, nz_ptr, nz_fn, nz_iface] at h h2_
  first | (simp [h, h2_]; done) | (obtain ⟨h3_, h4_⟩ := List.append_inj h2_ h.1; simp_all; done) | simp_all | grind
@[simp] theorem c169_fn (l : List TFreeSlot) (x_size_ : Int) (x_index_ : Int) : c169.fn ([.iface 225 (.ptr (0, 0) 0), .iface 230 (.agg [.lit (.int .i64 x_size_), .lit (.int .i64 x_index_)])]) ([((0, 0), .box (.own (1, 0) 2 0 l.length)), ((1, 0), .arr false 2 yTFreeSlot (ML encTFreeSlot l))]) = some (l.length ≤ 1048576, .tup [], [((0, 0), .box (.own (0, 1) 2 0 (l.length + 1))), ((0, 1), .arr false 2 yTFreeSlot (ML encTFreeSlot (pushH lsF dF l (⟨x_size_, x_index_⟩ : TFreeSlot))))]) :=
  mkCon_fn c169_inj ((l, ⟨x_size_, x_index_⟩) : (List TFreeSlot) × TFreeSlot) rfl rfl
theorem c169_pc (l : List TFreeSlot) (x : TFreeSlot) (hpre : l.length ≤ 1048576) : PCo Try.prog 169 ([.iface 225 (.ptr (0, 0) 0), .iface 230 (encTFreeSlot x)]) (Tab.of ([((0, 0), .box (.own (1, 0) 2 0 l.length)), ((1, 0), .arr false 2 yTFreeSlot (ML encTFreeSlot l))])) (.tup []) (Tab.of ([((0, 0), .box (.own (0, 1) 2 0 (l.length + 1))), ((0, 1), .arr false 2 yTFreeSlot (ML encTFreeSlot (pushH lsF dF l x)))])) := by
  refine pco_of_run [] (E := ⟨[c205, c273, c170], [(225, "Push", 273)], [(225, "Len", 170, 227)]⟩) (m := false) (base := 0) (Env.ok_cons c205_ok (Env.ok_cons c273_ok (Env.ok_cons c170_ok (Env.ok_me (methp_of (by kernel_rfl) (by kernel_rfl)) (Env.ok_md (methd_of (by kernel_rfl) (by kernel_rfl)) Env.ok_nil))))) G_ok mix 300 6 Try.func169 (by kernel_rfl) rfl (by kernel_rfl) (by kernel_rfl) rfl ?_
  simp [Try.f169]
  exact ⟨by omega, by omega, rfl⟩
theorem c169_ok : c169.ok Try.prog := mkCon_ok fun ⟨l, x⟩ hpre => c169_pc l x hpre
/-- container/heap.Pop -/
noncomputable def c171 : Con := mkCon 171 true (α := (List TFreeSlot) × Nat) (fun x => (fun (l : List TFreeSlot) (n : Nat) => ([.iface 225 (.ptr (0, 0) 0)] : List D)) x.1 x.2) (fun x => (fun (l : List TFreeSlot) (n : Nat) => ([((0, 0), .box (.own (1, 0) 2 0 n)), ((1, 0), .arr false 2 yTFreeSlot (ML encTFreeSlot l))] : List (Nm × OO))) x.1 x.2) (fun x => (fun (l : List TFreeSlot) (n : Nat) => n ≤ l.length ∧ 0 < n ∧ n ≤ 1048576) x.1 x.2) (fun x => (fun (l : List TFreeSlot) (n : Nat) => (.iface 230 (encTFreeSlot (l[0]?.getD default)) : D)) x.1 x.2) (fun x => (fun (l : List TFreeSlot) (n : Nat) => ([((0, 0), .box (.own (1, 0) 2 0 (n - 1))), ((1, 0), .arr false 2 yTFreeSlot (ML encTFreeSlot (popH lsF dF l n)))] : List (Nm × OO))) x.1 x.2)
@[simp] theorem c171_f : c171.f = 171 := rfl
@[simp] theorem c171_own : c171.own = true := rfl
theorem c171_inj : ∀ u_ v_ : (List TFreeSlot) × Nat, ((fun x => (fun (l : List TFreeSlot) (n : Nat) => ([.iface 225 (.ptr (0, 0) 0)] : List D)) x.1 x.2) u_).map nz = ((fun x => (fun (l : List TFreeSlot) (n : Nat) => ([.iface 225 (.ptr (0, 0) 0)] : List D)) x.1 x.2) v_).map nz → (fun x => (fun (l : List TFreeSlot) (n : Nat) => ([((0, 0), .box (.own (1, 0) 2 0 n)), ((1, 0), .arr false 2 yTFreeSlot (ML encTFreeSlot l))] : List (Nm × OO))) x.1 x.2) u_ = (fun x => (fun (l : List TFreeSlot) (n : Nat) => ([((0, 0), .box (.own (1, 0) 2 0 n)), ((1, 0), .arr false 2 yTFreeSlot (ML encTFreeSlot l))] : List (Nm × OO))) x.1 x.2) v_ → u_ = v_ := by
  intro u_ v_ h h2_
  obtain ⟨l, n⟩ := u_
  obtain ⟨l', n'⟩ := v_
  simp [nz_lit, nz1_lit, nz_agg, nz_sl, nz1_sl, nz_sx, nz_el, nz1_el, nz_own, nz1_own, nz_ptr, nz_fn, nz_iface] at h h2_
  first | (simp [h, h2_]; done) | (obtain ⟨h3_, h4_⟩ := List.append_inj h2_ h.1; simp_all; done) | simp_all | grind
@[simp] theorem c171_fn (l : List TFreeSlot) (n : Nat) : c171.fn ([.iface 225 (.ptr (0, 0) 0)]) ([((0, 0), .box (.own (1, 0) 2 0 n)), ((1, 0), .arr false 2 yTFreeSlot (ML encTFreeSlot l))]) = some (n ≤ l.length ∧ 0 < n ∧ n ≤ 1048576, .iface 230 (encTFreeSlot (l[0]?.getD default)), [((0, 0), .box (.own (1, 0) 2 0 (n - 1))), ((1, 0), .arr false 2 yTFreeSlot (ML encTFreeSlot (popH lsF dF l n)))]) :=
  mkCon_fn c171_inj ((l, n) : (List TFreeSlot) × Nat) rfl rfl
theorem c171_pc (l : List TFreeSlot) (n : Nat) (hpre : n ≤ l.length ∧ 0 < n ∧ n ≤ 1048576) : PCo Try.prog 171 ([.iface 225 (.ptr (0, 0) 0)]) (Tab.of ([((0, 0), .box (.own (1, 0) 2 0 n)), ((1, 0), .arr false 2 yTFreeSlot (ML encTFreeSlot l))])) (.iface 230 (encTFreeSlot (l[0]?.getD default))) (Tab.of ([((0, 0), .box (.own (1, 0) 2 0 (n - 1))), ((1, 0), .arr false 2 yTFreeSlot (ML encTFreeSlot (popH lsF dF l n)))])) := by
  refine pco_of_run [] (E := ⟨[c206, c272, c170, c274], [(225, "Pop", 272)], [(225, "Len", 170, 227), (225, "Swap", 274, 227)]⟩) (m := false) (base := 0) (Env.ok_cons c206_ok (Env.ok_cons c272_ok (Env.ok_cons c170_ok (Env.ok_cons c274_ok (Env.ok_me (methp_of (by kernel_rfl) (by kernel_rfl)) (Env.ok_md (methd_of (by kernel_rfl) (by kernel_rfl)) (Env.ok_md (methd_of (by kernel_rfl) (by kernel_rfl)) Env.ok_nil))))))) G_ok mix 300 6 Try.func171 (by kernel_rfl) rfl (by kernel_rfl) (by kernel_rfl) rfl ?_
  simp [Try.f171]
  obtain ⟨h1, h2, h3⟩ := hpre
  obtain ⟨hQl, -⟩ := viewF n l h1
  have ht := pop_top (lt := lsF) (d := dF) h2 h1
  have hd : (downH lsF dF (swF l 0 (n - 1)) (n - 1) 0).length = l.length := by rw [down_len _ _ _ _ (Nat.le_refl _)]; simp
  have hx : (downH lsF dF (swF l 0 (n - 1)) (n - 1) 0)[n - 1]?.getD default = l[0]?.getD default := ht
  simp only [hQl, hd, hx]
  exact ⟨by omega, by omega, by omega, by omega, ⟨trivial, trivial⟩, rfl⟩
theorem c171_ok : c171.ok Try.prog := mkCon_ok fun ⟨l, n⟩ hpre => c171_pc l n hpre
def slotE (l : List TSlot) (k : Nat) : TFreeSlot := ⟨(l[k]?.getD default).Size, (k : Int)⟩
def isBest (l : List TSlot) (s : Int) (r : Int) : Prop := (r = -1 ∧ ∀ k, k < l.length → isFree (l[k]?.getD default) = true → ¬ s ≤ (l[k]?.getD default).Size) ∨
  ∃ k, k < l.length ∧ r = (k : Int) ∧ isFree (l[k]?.getD default) = true ∧ s ≤ (l[k]?.getD default).Size ∧ ∀ j, j < l.length → isFree (l[j]?.getD default) = true → s ≤ (l[j]?.getD default).Size → lsF (slotE l j) (slotE l k) = false
theorem lsF_no {l : List TSlot} {j k : Nat} : lsF (slotE l j) (slotE l k) = false ↔ ((l[k]?.getD default).Size < (l[j]?.getD default).Size ∨ ((l[k]?.getD default).Size = (l[j]?.getD default).Size ∧ k ≤ j)) := by
  rw [lsF_iff]; simp only [slotE]; omega
theorem isBest_uniq {l : List TSlot} {s r r' : Int} (h : isBest l s r) (h' : isBest l s r') : r = r' := by
  rcases h with ⟨rfl, h⟩ | ⟨k, hk, rfl, hf, hs, hm⟩
  · rcases h' with ⟨rfl, h'⟩ | ⟨k', hk', rfl, hf', hs', hm'⟩
    · rfl
    · exact absurd hs' (h k' hk' hf')
  · rcases h' with ⟨rfl, h'⟩ | ⟨k', hk', rfl, hf', hs', hm'⟩
    · exact absurd hs (h' k hk hf)
    · have a := hm k' hk' hf' hs'
      have b := hm' k hk hf hs
      rw [lsF_no] at a b
      omega
def bestN (l : List TSlot) (s : Int) : Nat → Int
  | 0 => -1
  | p + 1 => if isFree (l[p]?.getD default) = true ∧ s ≤ (l[p]?.getD default).Size ∧ (bestN l s p < 0 ∨ (l[p]?.getD default).Size < (l[(bestN l s p).toNat]?.getD default).Size) then (p : Int) else bestN l s p
def best (l : List TSlot) (s : Int) : Int := bestN l s l.length
theorem bestN_le (l : List TSlot) (s : Int) : ∀ p, -1 ≤ bestN l s p ∧ bestN l s p < p
  | 0 => by simp [bestN]
  | p + 1 => by
    have := bestN_le l s p
    rw [bestN]; split <;> omega
def bestTo (l : List TSlot) (s : Int) (p : Nat) (r : Int) : Prop := (r = -1 ∧ ∀ k, k < p → isFree (l[k]?.getD default) = true → ¬ s ≤ (l[k]?.getD default).Size) ∨
  ∃ k, k < p ∧ r = (k : Int) ∧ isFree (l[k]?.getD default) = true ∧ s ≤ (l[k]?.getD default).Size ∧ ∀ j, j < p → isFree (l[j]?.getD default) = true → s ≤ (l[j]?.getD default).Size → lsF (slotE l j) (slotE l k) = false
theorem bestN_is (l : List TSlot) (s : Int) : ∀ p, bestTo l s p (bestN l s p)
  | 0 => .inl ⟨rfl, fun k hk => absurd hk (by omega)⟩
  | p + 1 => by
    have ih := bestN_is l s p
    rw [bestN]
    split
    · rename_i h
      obtain ⟨h1, h2, h3⟩ := h
      refine .inr ⟨p, by omega, rfl, h1, h2, fun j hj hf hs => ?_⟩
      rcases ih with ⟨e, hno⟩ | ⟨k, hk, e, hkf, hks, hm⟩
      · by_cases hjp : j = p
        · subst hjp; exact lsO.irr _
        · exact absurd hs (hno j (by omega) hf)
      · rw [e] at h3
        by_cases hjp : j = p
        · subst hjp; exact lsO.irr _
        · have a := hm j (by omega) hf hs
          have h4 : (l[p]?.getD default).Size < (l[k]?.getD default).Size := by
            rcases h3 with h3 | h3
            · omega
            · simpa using h3
          rw [lsF_no] at a ⊢
          omega
    · rename_i h
      rcases ih with ⟨e, hno⟩ | ⟨k, hk, e, hkf, hks, hm⟩
      · refine .inl ⟨e, fun k hk hf hs => ?_⟩
        by_cases hkp : k = p
        · subst hkp; exact h ⟨hf, hs, .inl (by omega)⟩
        · exact hno k (by omega) hf hs
      · refine .inr ⟨k, by omega, e, hkf, hks, fun j hj hf hs => ?_⟩
        by_cases hjp : j = p
        · subst hjp
          have h4 : ¬ (l[j]?.getD default).Size < (l[k]?.getD default).Size := fun h4 => h ⟨hf, hs, .inr (by rw [e]; simpa using h4)⟩
          rw [lsF_no]; omega
        · exact hm j (by omega) hf hs
theorem best_is (l : List TSlot) (s : Int) : isBest l s (best l s) := bestN_is l s l.length
def heapOf (l : List TSlot) (p : Nat) (h : List TFreeSlot) : Prop := h.length ≤ p ∧ Heap lsF dF h h.length ∧ (∀ e, MemH dF h h.length e ↔ ∃ k, k < p ∧ isFree (l[k]?.getD default) = true ∧ e = slotE l k)
def leftOf (l : List TSlot) (s : Int) (h : List TFreeSlot) (n : Nat) : Prop := n ≤ h.length ∧ Heap lsF dF h n ∧ (∀ e, MemH dF h n e → ∃ k, k < l.length ∧ isFree (l[k]?.getD default) = true ∧ e = slotE l k) ∧ (∀ k, k < l.length → isFree (l[k]?.getD default) = true → s ≤ (l[k]?.getD default).Size → MemH dF h n (slotE l k))
theorem heapOf_push {l : List TSlot} {p : Nat} {h : List TFreeSlot} (H : heapOf l p h) (hf : isFree (l[p]?.getD default) = true) : heapOf l (p + 1) (pushH lsF dF h (slotE l p)) := by
  obtain ⟨h1, h2, h3⟩ := H
  refine ⟨by rw [push_len]; omega, by rw [push_len]; exact push_heap lsO h2, fun e => ?_⟩
  rw [push_len, push_mem, h3]
  constructor
  · rintro (⟨k, hk, hkf, rfl⟩ | rfl)
    · exact ⟨k, by omega, hkf, rfl⟩
    · exact ⟨p, by omega, hf, rfl⟩
  · rintro ⟨k, hk, hkf, rfl⟩
    by_cases hkp : k = p
    · subst hkp; exact .inr rfl
    · exact .inl ⟨k, by omega, hkf, rfl⟩
theorem heapOf_skip {l : List TSlot} {p : Nat} {h : List TFreeSlot} (H : heapOf l p h) (hf : isFree (l[p]?.getD default) = false) : heapOf l (p + 1) h := by
  obtain ⟨h1, h2, h3⟩ := H
  refine ⟨by omega, h2, fun e => ?_⟩
  rw [h3]
  constructor
  · rintro ⟨k, hk, hkf, rfl⟩
    exact ⟨k, by omega, hkf, rfl⟩
  · rintro ⟨k, hk, hkf, rfl⟩
    refine ⟨k, ?_, hkf, rfl⟩
    by_cases hkp : k = p
    · subst hkp; rw [hf] at hkf; cases hkf
    · omega
theorem left_start {l : List TSlot} {s : Int} {h : List TFreeSlot} (H : heapOf l l.length h) : leftOf l s h h.length := by
  obtain ⟨h1, h2, h3⟩ := H
  exact ⟨Nat.le_refl _, h2, fun e he => (h3 e).1 he, fun k hk hf _ => (h3 _).2 ⟨k, hk, hf, rfl⟩⟩
theorem left_end {l : List TSlot} {s : Int} {h : List TFreeSlot} (H : leftOf l s h 0) : best l s = -1 := by
  obtain ⟨-, -, -, h4⟩ := H
  refine isBest_uniq (best_is l s) (.inl ⟨rfl, fun k hk hf hs => ?_⟩)
  obtain ⟨j, hj, -⟩ := h4 k hk hf hs
  omega
theorem left_hit {l : List TSlot} {s : Int} {h : List TFreeSlot} {n : Nat} (H : leftOf l s h n) (hn : 0 < n) (hs : s ≤ (h[0]?.getD default).size_) : best l s = (h[0]?.getD default).index_ := by
  obtain ⟨h1, h2, h3, h4⟩ := H
  obtain ⟨k, hk, hf, e⟩ := h3 (atH dF h 0) ⟨0, hn, rfl⟩
  have e' : h[0]?.getD default = slotE l k := e
  rw [e'] at hs ⊢
  refine isBest_uniq (best_is l s) (.inr ⟨k, hk, rfl, hf, hs, fun j hj hjf hjs => ?_⟩)
  obtain ⟨i, hi, e2⟩ := h4 j hj hjf hjs
  rw [← e2, ← e]
  exact heap_root lsO h2 i hi
theorem left_pop {l : List TSlot} {s : Int} {h : List TFreeSlot} {n : Nat} (H : leftOf l s h n) (hn : 0 < n) (hs : ¬ s ≤ (h[0]?.getD default).size_) : leftOf l s (popH lsF dF h n) (n - 1) := by
  obtain ⟨h1, h2, h3, h4⟩ := H
  have hm := fun e => pop_mem (lt := lsF) (d := dF) (e := e) hn h1
  refine ⟨by rw [pop_len]; omega, pop_heap lsO hn h1 h2, fun e he => h3 e ((hm e).2 (.inl he)), fun k hk hf hks => ?_⟩
  rcases (hm _).1 (h4 k hk hf hks) with h5 | h5
  · exact h5
  · have : (h[0]?.getD default) = slotE l k := h5.symm
    rw [this] at hs
    exact absurd hks hs
/-- loop.example/g03007/impl.smallestFree -/
noncomputable def c112 : Con := mkCon 112 false (α := (List TSlot) × Int) (fun x => (fun (l : List TSlot) (s : Int) => [encLTSlot l, dI s]) x.1 x.2) (fun _ => []) (fun x => (fun (l : List TSlot) (s : Int) => l.length ≤ 1048576) x.1 x.2) (fun x => (fun (l : List TSlot) (s : Int) => (dI (best l s) : D)) x.1 x.2) (fun x => (fun (l : List TSlot) (s : Int) => []) x.1 x.2)
@[simp] theorem c112_f : c112.f = 112 := rfl
@[simp] theorem c112_own : c112.own = false := rfl
theorem c112_inj : ∀ u_ v_ : (List TSlot) × Int, ((fun x => (fun (l : List TSlot) (s : Int) => [encLTSlot l, dI s]) x.1 x.2) u_).map nz = ((fun x => (fun (l : List TSlot) (s : Int) => [encLTSlot l, dI s]) x.1 x.2) v_).map nz → u_ = v_ := by
  intro u_ v_ h
  obtain ⟨l, s⟩ := u_
  obtain ⟨l', s'⟩ := v_
  simp [nz_lit, nz1_lit, nz_agg, nz_sl, nz1_sl, encLTSlot] at h
  first | (simp [h]; done) | (obtain ⟨⟩ := h; simp_all; done) | simp_all
@[simp] theorem c112_fn (l : List TSlot) (s : Int) : c112.fn [.sl false 3 yTSlot (ML encTSlot l), .lit (.int .i64 s)] [] = some ((fun (l : List TSlot) (s : Int) => l.length ≤ 1048576) l s, (fun (l : List TSlot) (s : Int) => (dI (best l s) : D)) l s, (fun (l : List TSlot) (s : Int) => []) l s) :=
  mkCon_fn (fun x y h _ => c112_inj x y h) ((l, s) : (List TSlot) × Int) (by simp [nz, nz1, ML_nil, encLTSlot]) rfl
@[simp] theorem c112_fn1 (s_l : Nat) (z_l : D) (s : Int) : c112.fn [.sl false s_l z_l [], .lit (.int .i64 s)] [] = some ((fun (l : List TSlot) (s : Int) => l.length ≤ 1048576) [] s, (fun (l : List TSlot) (s : Int) => (dI (best l s) : D)) [] s, (fun (l : List TSlot) (s : Int) => []) [] s) :=
  mkCon_fn (fun x y h _ => c112_inj x y h) (([], s) : (List TSlot) × Int) (by simp [nz, nz1, ML_nil, encLTSlot]) rfl
theorem c112_pc (l : List TSlot) (s : Int) (hpre : l.length ≤ 1048576) : PCo Try.prog 112 [encLTSlot l, dI s] (Tab.of []) (dI (best l s)) (Tab.of []) := by
  refine pco_of_run [] (E := ⟨[c120, c169, c170, c171], [], []⟩) (m := false) (base := 0) (Env.ok_cons c120_ok (Env.ok_cons c169_ok (Env.ok_cons c170_ok (Env.ok_cons c171_ok Env.ok_nil)))) G_ok mix 300 6 Try.func112 (by kernel_rfl) rfl (by kernel_rfl) (by kernel_rfl) rfl ?_
  simp [Try.f112]
  refine loop_inv (fun q : Nat × List TFreeSlot => q.1 ≤ l.length ∧ heapOf l q.1 q.2) (fun q => [(1, dI s), (5, .ptr (0, 1) 0), (12, encLTSlot l), (13, dI l.length), (14, dI q.1)]) (fun q => [((0, 1), .box (.own (1, 1) 2 0 q.2.length)), ((1, 1), .arr false 2 yTFreeSlot (ML encTFreeSlot q.2))]) 2 (fun q => l.length - q.1) (0, []) 400 (by simp) (by simp [heapOf, Heap, MemH]) (by simp) ?_
  intro ⟨p, h⟩ ⟨hp, H⟩
  simp only at hp H
  simp
  refine ⟨fun hlt => ?_, fun hge => ?_⟩
  · have hpush := heapOf_push (p := p) H
    have hskip := heapOf_skip (p := p) H
    have hl := H.1
    repeat' (first | omega | refine And.intro ?_ ?_ | intro _)
    · rename_i hf
      exact Again.mk (p + 1, pushH lsF dF h (slotE l p)) ⟨by simp only; omega, hpush hf⟩ (by simp [push_len, slotE]) (by simp; omega)
    · rename_i hf
      exact Again.mk (p + 1, h) ⟨by simp only; omega, hskip hf⟩ (by simp) (by simp; omega)
  · have : p = l.length := by omega
    subst this
    have hl := H.1
    refine loop_inv (fun q : Nat × List TFreeSlot => q.1 ≤ 1048576 ∧ leftOf l s q.2 q.1) (fun q => [(1, dI s), (5, .ptr (0, 1) 0)]) (fun q => [((0, 1), .box (.own (1, 1) 2 0 q.1)), ((1, 1), .arr false 2 yTFreeSlot (ML encTFreeSlot q.2))]) 2 (fun q => q.1) (h.length, h) 400 (by simp) (by simp only; exact ⟨by omega, left_start H⟩) (by simp) ?_
    intro ⟨n, q⟩ ⟨hn, H2⟩
    simp only at hn H2
    have h1 := H2.1
    obtain ⟨hQl, -⟩ := viewF n q h1
    simp [hQl]
    refine ⟨h1, fun hn0 => ⟨⟨h1, hn0, hn⟩, fun hs => (left_hit H2 hn0 hs).symm, fun hs => ?_⟩, fun h0 => ?_⟩
    · exact Again.mk (n - 1, popH lsF dF q n) ⟨by simp only; omega, left_pop H2 hn0 (by omega)⟩ (by simp) (by simp; omega)
    · subst h0
      exact (left_end H2).symm
theorem c112_ok : c112.ok Try.prog := mkCon_ok fun ⟨l, s⟩ hpre => c112_pc l s hpre
def mSmall (l : List TSlot) (s : Int) : Int := if best l s < 0 then 0 else (l[(best l s).toNat]?.getD default).Id
theorem best_lt (l : List TSlot) (s : Int) : -1 ≤ best l s ∧ best l s < l.length := bestN_le l s l.length
/-- loop.example/g03007/impl.SmallestFree -/
noncomputable def c46 : Con := mkCon 46 false (α := (List TSlot) × Int) (fun x => (fun (l : List TSlot) (s : Int) => [encLTSlot l, dI s]) x.1 x.2) (fun _ => []) (fun x => (fun (l : List TSlot) (s : Int) => l.length ≤ 1048576) x.1 x.2) (fun x => (fun (l : List TSlot) (s : Int) => (dI (mSmall l s) : D)) x.1 x.2) (fun x => (fun (l : List TSlot) (s : Int) => []) x.1 x.2)
@[simp] theorem c46_f : c46.f = 46 := rfl
@[simp] theorem c46_own : c46.own = false := rfl
theorem c46_inj : ∀ u_ v_ : (List TSlot) × Int, ((fun x => (fun (l : List TSlot) (s : Int) => [encLTSlot l, dI s]) x.1 x.2) u_).map nz = ((fun x => (fun (l : List TSlot) (s : Int) => [encLTSlot l, dI s]) x.1 x.2) v_).map nz → u_ = v_ := by
  intro u_ v_ h
  obtain ⟨l, s⟩ := u_
  obtain ⟨l', s'⟩ := v_
  simp [nz_lit, nz1_lit, nz_agg, nz_sl, nz1_sl, encLTSlot] at h
  first | (simp [h]; done) | (obtain ⟨⟩ := h; simp_all; done) | simp_all
@[simp] theorem c46_fn (l : List TSlot) (s : Int) : c46.fn [.sl false 3 yTSlot (ML encTSlot l), .lit (.int .i64 s)] [] = some ((fun (l : List TSlot) (s : Int) => l.length ≤ 1048576) l s, (fun (l : List TSlot) (s : Int) => (dI (mSmall l s) : D)) l s, (fun (l : List TSlot) (s : Int) => []) l s) :=
  mkCon_fn (fun x y h _ => c46_inj x y h) ((l, s) : (List TSlot) × Int) (by simp [nz, nz1, ML_nil, encLTSlot]) rfl
@[simp] theorem c46_fn1 (s_l : Nat) (z_l : D) (s : Int) : c46.fn [.sl false s_l z_l [], .lit (.int .i64 s)] [] = some ((fun (l : List TSlot) (s : Int) => l.length ≤ 1048576) [] s, (fun (l : List TSlot) (s : Int) => (dI (mSmall l s) : D)) [] s, (fun (l : List TSlot) (s : Int) => []) [] s) :=
  mkCon_fn (fun x y h _ => c46_inj x y h) (([], s) : (List TSlot) × Int) (by simp [nz, nz1, ML_nil, encLTSlot]) rfl
theorem c46_pc (l : List TSlot) (s : Int) (hpre : l.length ≤ 1048576) : PCo Try.prog 46 [encLTSlot l, dI s] (Tab.of []) (dI (mSmall l s)) (Tab.of []) := by
  refine pco_of_run [] (E := ⟨[c112], [], []⟩) (m := false) (base := 0) (Env.ok_cons c112_ok Env.ok_nil) G_ok mix 300 6 Try.func46 (by kernel_rfl) rfl (by kernel_rfl) (by kernel_rfl) rfl ?_
  simp [Try.f46]
  have hb := best_lt l s
  simp [mSmall]
  exact ⟨hpre, fun a b => absurd a (by omega), fun a => ⟨⟨a, hb.2⟩, fun b => absurd b (by omega)⟩⟩
theorem c46_ok : c46.ok Try.prog := mkCon_ok fun ⟨l, s⟩ hpre => c46_pc l s hpre
/-- loop.example/g03007/spec.SmallestFree -/
noncomputable def c225 : Con := mkCon 225 false (α := (List TSlot) × Int) (fun x => (fun (l : List TSlot) (s : Int) => [encLTSlot l, dI s]) x.1 x.2) (fun _ => []) (fun x => (fun (l : List TSlot) (s : Int) => l.length ≤ 1099511627776) x.1 x.2) (fun x => (fun (l : List TSlot) (s : Int) => (dI (mSmall l s) : D)) x.1 x.2) (fun x => (fun (l : List TSlot) (s : Int) => []) x.1 x.2)
@[simp] theorem c225_f : c225.f = 225 := rfl
@[simp] theorem c225_own : c225.own = false := rfl
theorem c225_inj : ∀ u_ v_ : (List TSlot) × Int, ((fun x => (fun (l : List TSlot) (s : Int) => [encLTSlot l, dI s]) x.1 x.2) u_).map nz = ((fun x => (fun (l : List TSlot) (s : Int) => [encLTSlot l, dI s]) x.1 x.2) v_).map nz → u_ = v_ := by
  intro u_ v_ h
  obtain ⟨l, s⟩ := u_
  obtain ⟨l', s'⟩ := v_
  simp [nz_lit, nz1_lit, nz_agg, nz_sl, nz1_sl, encLTSlot] at h
  first | (simp [h]; done) | (obtain ⟨⟩ := h; simp_all; done) | simp_all
@[simp] theorem c225_fn (l : List TSlot) (s : Int) : c225.fn [.sl false 3 yTSlot (ML encTSlot l), .lit (.int .i64 s)] [] = some ((fun (l : List TSlot) (s : Int) => l.length ≤ 1099511627776) l s, (fun (l : List TSlot) (s : Int) => (dI (mSmall l s) : D)) l s, (fun (l : List TSlot) (s : Int) => []) l s) :=
  mkCon_fn (fun x y h _ => c225_inj x y h) ((l, s) : (List TSlot) × Int) (by simp [nz, nz1, ML_nil, encLTSlot]) rfl
@[simp] theorem c225_fn1 (s_l : Nat) (z_l : D) (s : Int) : c225.fn [.sl false s_l z_l [], .lit (.int .i64 s)] [] = some ((fun (l : List TSlot) (s : Int) => l.length ≤ 1099511627776) [] s, (fun (l : List TSlot) (s : Int) => (dI (mSmall l s) : D)) [] s, (fun (l : List TSlot) (s : Int) => []) [] s) :=
  mkCon_fn (fun x y h _ => c225_inj x y h) (([], s) : (List TSlot) × Int) (by simp [nz, nz1, ML_nil, encLTSlot]) rfl
theorem c225_pc (l : List TSlot) (s : Int) (hpre : l.length ≤ 1099511627776) : PCo Try.prog 225 [encLTSlot l, dI s] (Tab.of []) (dI (mSmall l s)) (Tab.of []) := by
  refine pco_of_run [] (E := ⟨[], [], []⟩) (m := false) (base := 0) Env.ok_nil G_ok mix 300 6 Try.func225 (by kernel_rfl) rfl (by kernel_rfl) (by kernel_rfl) rfl ?_
  simp [Try.f225]
  refine loop_inv (fun p : Nat => p ≤ l.length) (fun p => [(0, encLTSlot l), (1, dI s), (5, dI (bestN l s p)), (6, dI p)]) (fun _ => []) 1 (fun p => l.length - p) 0 400 (by simp) (by simp) (by simp [bestN]) ?_
  intro p hp
  have hb := bestN_le l s p
  have hs : bestN l s (p + 1) = _ := bestN.eq_2 l s p
  simp only [isFree] at hs
  simp only [decide_eq_true_eq] at hs
  have hs1 := fun h => hs.trans (if_pos h)
  have hs2 := fun h => hs.trans (if_neg h)
  simp
  refine ⟨fun hlt => ?_, fun hge => ?_⟩
  · repeat' (first | omega | refine And.intro ?_ ?_ | intro _)
    all_goals refine Again.mk (p + 1) (by omega) ?_ (by first | omega | (simp; omega))
    · rename_i a b c; have e := hs1 ⟨a, b, c⟩; simp [e]
    · rename_i a; have e := hs2 (fun ⟨x, y, z⟩ => by have := a x y; omega); simp [e]
  · have : p = l.length := by omega
    subst this
    have e : mSmall l s = if bestN l s l.length < 0 then 0 else (l[(bestN l s l.length).toNat]?.getD default).Id := rfl
    rw [e]
    exact ⟨fun a => by rw [if_pos a], fun a => ⟨⟨a, hb.2⟩, by rw [if_neg (by omega)]⟩⟩
theorem c225_ok : c225.ok Try.prog := mkCon_ok fun ⟨l, s⟩ hpre => c225_pc l s hpre
end Go.Proofs.Ytpnfkjbnhholfaa
