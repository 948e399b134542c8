/- Contracts of the functions that the laws run. -/
import Derived.Test.Ytadbjlnfdjbbjaach24g
import Derived.Test.YtadbjlnfdjbbjaaEngB
namespace Go.Proofs.Ytadbjlnfdjbbjaa
open Go Go.Eng
set_option linter.unusedSimpArgs false
set_option linter.unusedVariables false
set_option maxRecDepth 10000
set_option maxHeartbeats 1000000
/-- slices.Clone[[]loop.example/g03007/impl.Fin -/
noncomputable def c140 : Con := mkCon 140 false (α := (List TFind)) (fun x => (fun (l : List TFind) => [encLTFind l]) x) (fun _ => []) (fun x => (fun (l : List TFind) => l.length ≤ 1073741824) x) (fun x => (fun (l : List TFind) => (.own (0, 1) 8 0 l.length : D)) x) (fun x => (fun (l : List TFind) => [((0, 1), .arr false 8 yTFind (ML encTFind l))]) x)
@[simp] theorem c140_f : c140.f = 140 := rfl
@[simp] theorem c140_own : c140.own = false := rfl
theorem c140_inj : ∀ u_ v_ : (List TFind), ((fun x => (fun (l : List TFind) => [encLTFind l]) x) u_).map nz = ((fun x => (fun (l : List TFind) => [encLTFind l]) x) v_).map nz → u_ = v_ := by
  intro u_ v_ h
  obtain l := u_
  obtain l' := v_
  simp [nz_lit, nz1_lit, nz_agg, nz_sl, nz1_sl, encLTFind] at h
  first | (simp [h]; done) | (obtain ⟨⟩ := h; simp_all; done) | simp_all
@[simp] theorem c140_fn (l : List TFind) : c140.fn [.sl false 8 yTFind (ML encTFind l)] [] = some ((fun (l : List TFind) => l.length ≤ 1073741824) l, (fun (l : List TFind) => (.own (0, 1) 8 0 l.length : D)) l, (fun (l : List TFind) => [((0, 1), .arr false 8 yTFind (ML encTFind l))]) l) :=
  mkCon_fn (fun x y h _ => c140_inj x y h) (l : (List TFind)) (by simp [nz, nz1, ML_nil, encLTFind]) rfl
@[simp] theorem c140_fn1 (s_l : Nat) (z_l : D) : c140.fn [.sl false s_l z_l []] [] = some ((fun (l : List TFind) => l.length ≤ 1073741824) [], (fun (l : List TFind) => (.own (0, 1) 8 0 l.length : D)) [], (fun (l : List TFind) => [((0, 1), .arr false 8 yTFind (ML encTFind l))]) []) :=
  mkCon_fn (fun x y h _ => c140_inj x y h) ([] : (List TFind)) (by simp [nz, nz1, ML_nil, encLTFind]) rfl
theorem c140_pc (l : List TFind) (hpre : l.length ≤ 1073741824) : PCo Try.prog 140 [encLTFind l] (Tab.of []) (.own (0, 1) 8 0 l.length) (Tab.of [((0, 1), .arr false 8 yTFind (ML encTFind l))]) := by
  by_cases hl : l = []
  · subst hl
    show PCo Try.prog 140 [.sl false 8 yTFind []] Tab.nil (.own (0, 1) 8 0 0) (Tab.of [((0, 1), .arr false 8 yTFind [])])
    refine pco_slice fun a cap => ?_
    cases a with
    | none =>
      refine pc_ghost (s' := 0) (z' := .any) ?_
      refine pco_of_run [] (tin := []) (E := ⟨[], []⟩) (m := false) (base := 0) Env.ok_nil G_ok mix 300 6 Try.func140 (by kernel_rfl) rfl (by kernel_rfl) (by kernel_rfl) rfl ?_
      simp [Try.f140]
    | some q =>
      refine pco_of_run [] (tin := []) (E := ⟨[], []⟩) (m := false) (base := 0) Env.ok_nil G_ok mix 300 6 Try.func140 (by kernel_rfl) rfl (by kernel_rfl) (by kernel_rfl) rfl ?_
      simp [Try.f140]
  · refine pco_of_run [] (E := ⟨[], []⟩) (m := false) (base := 0) Env.ok_nil G_ok mix 300 6 Try.func140 (by kernel_rfl) rfl (by kernel_rfl) (by kernel_rfl) rfl ?_
    simp [Try.f140, -nilS, nilS_ML hl]
    omega
theorem c140_ok : c140.ok Try.prog := mkCon_ok fun l hpre => c140_pc l hpre
def notTw (k : List Int) (x : TFind) : Bool := !isTw k x
def mDropK (l : List TFind) (k : List Int) : List TFind := l.filter (notTw k)
theorem mDropK_len (l : List TFind) (k : List Int) : (mDropK l k).length ≤ l.length := List.length_filter_le _ _
theorem filtT_at {l : List TFind} {k : List Int} {p : Nat} (h : p < l.length) : (l.take (p + 1)).filter (notTw k) = (l.take p).filter (notTw k) ++ if (l[p]?.getD default).Thing.Id ∈ k then [] else [l[p]?.getD default] := by
  rw [take_at (d := default) h, List.filter_append]
  congr 1
  by_cases hk : (l[p]?.getD default).Thing.Id ∈ k <;> simp [List.filter, notTw, isTw, hk]
theorem filtT_len (l : List TFind) (k : List Int) (p : Nat) : ((l.take p).filter (notTw k)).length ≤ p := by
  refine Nat.le_trans (List.length_filter_le _ _) ?_
  simp; omega
theorem preL_appT {α : Type} (l t : List α) : preL l.length (l ++ t) = l := by simp [preL]
attribute [simp] preL_appT
def tailT (l : List TFind) (k : List Int) : List TFind := List.replicate (l.length - (mDropK l k).length) default
theorem view_appT {α : Type} (A T : List α) : (if A.length = A.length + T.length then A ++ T else A) = A := by
  split
  · rename_i h
    have : T = [] := by apply List.eq_nil_of_length_eq_zero; omega
    simp [this]
  · rfl
theorem view_app2TT {α : Type} (A T : List α) [Decidable (T = [])] : (if T = [] then A ++ T else A) = A := by
  split
  · rename_i h; simp [h]
  · rfl
attribute [simp] view_appT view_app2TT
theorem indexBy_specT {α : Type} {w : α → Bool} {d : α} : ∀ (l : List α) (i : Int), 0 ≤ i → (indexBy w i l = -1 ∧ ∀ x ∈ l, w x = false) ∨ ∃ n : Nat, n < l.length ∧ indexBy w i l = i + n ∧ (∀ x ∈ l.take n, w x = false) ∧ w (l[n]?.getD d) = true
  | [], i, _ => .inl ⟨rfl, by simp⟩
  | x :: l, i, hi => by
    simp only [indexBy]
    by_cases h : w x = true
    · right; exact ⟨0, by simp, by simp [h], by simp, by simpa using h⟩
    · rw [if_neg h]
      rcases indexBy_specT (w := w) (d := d) l (i + 1) (by omega) with ⟨h1, h2⟩ | ⟨n, h1, h2, h3, h4⟩
      · left
        refine ⟨h1, fun y hy => ?_⟩
        rcases List.mem_cons.1 hy with rfl | hy
        · simpa using h
        · exact h2 y hy
      · right
        refine ⟨n + 1, by simp; omega, by rw [h2]; push_cast; omega, fun y hy => ?_, by simpa using h4⟩
        rw [List.take_succ_cons] at hy
        rcases List.mem_cons.1 hy with rfl | hy
        · simpa using h
        · exact h3 y hy
theorem filtT_all {l : List TFind} {k : List Int} (h : ∀ x ∈ l, isTw k x = false) : l.filter (notTw k) = l := by
  rw [List.filter_eq_self]; intro x hx; simp [notTw, h x hx]
def rowT (l : List TFind) (k : List Int) (q : Nat × List TFind) : List TFind := (l.take q.1).filter (notTw k) ++ (q.2 ++ l.drop q.1)
theorem rowT_get {l : List TFind} {k : List Int} {p : Nat} {M : List TFind} (h : ((l.take p).filter (notTw k)).length + M.length = p) : (rowT l k (p, M))[p]?.getD default = l[p]?.getD default := by
  simp only [rowT]
  rw [List.getElem?_append_right (by omega), List.getElem?_append_right (by omega)]
  have : p - ((l.take p).filter (notTw k)).length - M.length = 0 := by omega
  rw [this]; simp
theorem rowT_len {l : List TFind} {k : List Int} {p : Nat} {M : List TFind} (h : ((l.take p).filter (notTw k)).length + M.length = p) (hp : p ≤ l.length) : (rowT l k (p, M)).length = l.length := by
  simp [rowT]; omega
theorem rowT_set {l : List TFind} {k : List Int} {p : Nat} {M : List TFind} (hM : 0 < M.length) (hp : p < l.length) (hw : ¬ (l[p]?.getD default).Thing.Id ∈ k) : (rowT l k (p, M)).set ((l.take p).filter (notTw k)).length (l[p]?.getD default) = rowT l k (p + 1, M.tail ++ [l[p]?.getD default]) := by
  simp only [rowT]
  rw [List.set_append_right _ _ (Nat.le_refl _), Nat.sub_self, filtT_at hp, if_neg hw]
  cases M with
  | nil => simp at hM
  | cons m M => simp [drop_at (d := default) hp]
theorem rowT_stay {l : List TFind} {k : List Int} {p : Nat} {M : List TFind} (hp : p < l.length) (hw : (l[p]?.getD default).Thing.Id ∈ k) : rowT l k (p, M) = rowT l k (p + 1, M ++ [l[p]?.getD default]) := by
  simp only [rowT]
  rw [filtT_at hp, if_pos hw, drop_at (d := default) hp]; simp
theorem rowT_end {l : List TFind} {k : List Int} {M : List TFind} : rowT l k (l.length, M) = mDropK l k ++ M := by simp [rowT, mDropK]
/-- slices.DeleteFunc[[]loop.example/g03007/impl.Fin -/
noncomputable def c139 : Con := mkCon 139 true (α := (List TFind) × (List Int)) (fun x => (fun (l : List TFind) (k : List Int) => ([.own (0, 0) 8 0 l.length, .fn (.func 141) [] [.ptr (1, 0) 0]] : List D)) x.1 x.2) (fun x => (fun (l : List TFind) (k : List Int) => ([((0, 0), .arr false 8 yTFind (ML encTFind l)), ((1, 0), .box (.own (2, 0) 1 0 k.length)), ((2, 0), .arr false 1 (dI 0) (ML dI k))] : List (Nm × OO))) x.1 x.2) (fun x => (fun (l : List TFind) (k : List Int) => l.length ≤ 1099511627776 ∧ k.length ≤ 1099511627776) x.1 x.2) (fun x => (fun (l : List TFind) (k : List Int) => (.own (0, 0) 8 0 (mDropK l k).length : D)) x.1 x.2) (fun x => (fun (l : List TFind) (k : List Int) => ([((0, 0), .arr false 8 yTFind (ML encTFind (mDropK l k ++ tailT l k))), ((1, 0), .box (.own (2, 0) 1 0 k.length)), ((2, 0), .arr false 1 (dI 0) (ML dI k))] : List (Nm × OO))) x.1 x.2)
@[simp] theorem c139_f : c139.f = 139 := rfl
@[simp] theorem c139_own : c139.own = true := rfl
theorem c139_inj : ∀ u_ v_ : (List TFind) × (List Int), ((fun x => (fun (l : List TFind) (k : List Int) => ([.own (0, 0) 8 0 l.length, .fn (.func 141) [] [.ptr (1, 0) 0]] : List D)) x.1 x.2) u_).map nz = ((fun x => (fun (l : List TFind) (k : List Int) => ([.own (0, 0) 8 0 l.length, .fn (.func 141) [] [.ptr (1, 0) 0]] : List D)) x.1 x.2) v_).map nz → (fun x => (fun (l : List TFind) (k : List Int) => ([((0, 0), .arr false 8 yTFind (ML encTFind l)), ((1, 0), .box (.own (2, 0) 1 0 k.length)), ((2, 0), .arr false 1 (dI 0) (ML dI k))] : List (Nm × OO))) x.1 x.2) u_ = (fun x => (fun (l : List TFind) (k : List Int) => ([((0, 0), .arr false 8 yTFind (ML encTFind l)), ((1, 0), .box (.own (2, 0) 1 0 k.length)), ((2, 0), .arr false 1 (dI 0) (ML dI k))] : List (Nm × OO))) x.1 x.2) v_ → u_ = v_ := by
  intro u_ v_ h h2_
  obtain ⟨l, k⟩ := u_
  obtain ⟨l', k'⟩ := v_
  simp [nz_lit, nz1_lit, nz_agg, nz_sl, nz1_sl, nz_sx, nz_el, nz1_el, nz_own, nz1_own, nz_ptr, nz_fn, nz_iface] at h h2_
  first | (simp [h, h2_]; done) | (obtain ⟨h3_, h4_⟩ := List.append_inj h2_ h.1; simp_all; done) | simp_all | grind
@[simp] theorem c139_fn (l : List TFind) (k : List Int) : c139.fn ([.own (0, 0) 8 0 l.length, .fn (.func 141) [] [.ptr (1, 0) 0]]) ([((0, 0), .arr false 8 yTFind (ML encTFind l)), ((1, 0), .box (.own (2, 0) 1 0 k.length)), ((2, 0), .arr false 1 (dI 0) (ML dI k))]) = some (l.length ≤ 1099511627776 ∧ k.length ≤ 1099511627776, .own (0, 0) 8 0 (mDropK l k).length, [((0, 0), .arr false 8 yTFind (ML encTFind (mDropK l k ++ tailT l k))), ((1, 0), .box (.own (2, 0) 1 0 k.length)), ((2, 0), .arr false 1 (dI 0) (ML dI k))]) :=
  mkCon_fn c139_inj ((l, k) : (List TFind) × (List Int)) rfl rfl
theorem c139_pc (l : List TFind) (k : List Int) (hpre : l.length ≤ 1099511627776 ∧ k.length ≤ 1099511627776) : PCo Try.prog 139 ([.own (0, 0) 8 0 l.length, .fn (.func 141) [] [.ptr (1, 0) 0]]) (Tab.of ([((0, 0), .arr false 8 yTFind (ML encTFind l)), ((1, 0), .box (.own (2, 0) 1 0 k.length)), ((2, 0), .arr false 1 (dI 0) (ML dI k))])) (.own (0, 0) 8 0 (mDropK l k).length) (Tab.of ([((0, 0), .arr false 8 yTFind (ML encTFind (mDropK l k ++ tailT l k))), ((1, 0), .box (.own (2, 0) 1 0 k.length)), ((2, 0), .arr false 1 (dI 0) (ML dI k))])) := by
  refine pco_of_run [] (E := ⟨[c167, c141], []⟩) (m := false) (base := 0) (Env.ok_cons c167_ok (Env.ok_cons c141_ok Env.ok_nil)) G_ok mix 300 6 Try.func139 (by kernel_rfl) rfl (by kernel_rfl) (by kernel_rfl) rfl ?_
  simp [Try.f139]
  obtain ⟨hpre, hkl⟩ := hpre
  rcases indexBy_specT (w := isTw k) (d := default) l 0 (by omega) with ⟨h1, h2⟩ | ⟨n, h1, h2, h3, h4⟩
  · have hf : mDropK l k = l := filtT_all h2
    refine ⟨⟨hpre, hkl⟩, fun _ => ?_, fun h => absurd h1 h⟩
    simp [tailT, hf]
  have h2' : indexBy (isTw k) 0 l = n := by omega
  simp only [h2']
  refine ⟨⟨hpre, hkl⟩, fun h => by omega, fun _ => ⟨by omega, ?_⟩⟩
  have hA : (l.take n).filter (notTw k) = l.take n := filtT_all h3
  have hA2 : (l.take (n + 1)).filter (notTw k) = l.take n := by
    rw [filtT_at h1, if_pos (by simpa [isTw] using h4), hA, List.append_nil]
  have hR : l = rowT l k (n + 1, [l[n]?.getD default]) := by
    simp only [rowT, hA2]
    have := drop_at (d := default) h1
    rw [← List.append_assoc]
    conv => lhs; rw [← List.take_append_drop n l, this]
    simp
  have hn : min n l.length = n := by omega
  refine loop_inv (fun q : Nat × List TFind => q.1 ≤ l.length ∧ ((l.take q.1).filter (notTw k)).length + q.2.length = q.1 ∧ 0 < q.2.length) (fun q => [(0, .own (0, 0) 8 0 l.length), (1, .fn (.func 141) [] [.ptr (1, 0) 0]), (5, dI ((l.take q.1).filter (notTw k)).length), (6, dI q.1)]) (fun q => [((0, 0), .arr false 8 yTFind (ML encTFind (rowT l k q))), ((1, 0), .box (.own (2, 0) 1 0 k.length)), ((2, 0), .arr false 1 (dI 0) (ML dI k))]) 2 (fun q => l.length - q.1) (n + 1, [l[n]?.getD default]) 400 (by simp) (by simp [hA2]; omega) (by simp [hA2, ← hR, hn]) ?_
  intro ⟨p, M⟩ ⟨hp, hM, hM0⟩
  simp only at hp hM hM0
  have hl := rowT_len hM hp
  simp [hl]
  refine ⟨fun hlt => ?_, fun hge => ?_⟩
  · simp only [rowT_get hM]
    have hA3 := filtT_at (k := k) hlt
    refine ⟨hlt, hkl, fun hw => ?_, fun hw => ?_⟩
    · have hw2 : ¬ (l[p]?.getD default).Thing.Id ∈ k := by simpa [isTw] using hw
      rw [if_neg hw2] at hA3
      have hs := rowT_set hM0 hlt hw2
      repeat' (first | omega | refine And.intro ?_ ?_ | intro _)
      refine Again.mk (p + 1, M.tail ++ [l[p]?.getD default]) ⟨by simp; omega, by simp [hA3]; omega, by simp⟩ ?_ (by first | omega | (simp; omega))
      simp [hA3, hs]
    · have hw2 : (l[p]?.getD default).Thing.Id ∈ k := by simpa [isTw] using hw
      rw [if_pos hw2, List.append_nil] at hA3
      have hs := rowT_stay (M := M) hlt hw2
      repeat' (first | omega | refine And.intro ?_ ?_ | intro _)
      refine Again.mk (p + 1, M ++ [l[p]?.getD default]) ⟨by simp; omega, by simp [hA3]; omega, by simp⟩ ?_ (by first | omega | (simp; omega))
      simp [hA3, ← hs]
  · have : p = l.length := by omega
    subst this
    simp only [rowT_end]
    have hA4 : (l.take l.length).filter (notTw k) = mDropK l k := by rw [List.take_length]; rfl
    have hml := mDropK_len l k
    simp only [hA4] at hM ⊢
    refine ⟨⟨by omega, by omega⟩, by omega, trivial, ?_⟩
    rw [List.take_left' rfl, List.drop_of_length_le (by simp; omega), List.append_nil]; rfl
theorem c139_ok : c139.ok Try.prog := mkCon_ok fun ⟨l, k⟩ hpre => c139_pc l k hpre
def mDropTwins (l : List TFind) : List TFind := mDropK l (mTwinsOf l)
/-- loop.example/g03007/impl.DropTwins -/
noncomputable def c87 : Con := mkCon 87 false (α := (List TFind)) (fun x => (fun (l : List TFind) => [encLTFind l]) x) (fun _ => []) (fun x => (fun (l : List TFind) => l.length ≤ 1073741823) x) (fun x => (fun (l : List TFind) => (.own (0, 1) 8 0 (mDropTwins l).length : D)) x) (fun x => (fun (l : List TFind) => [((0, 1), .arr false 8 yTFind (ML encTFind (mDropTwins l ++ tailT l (mTwinsOf l))))]) x)
@[simp] theorem c87_f : c87.f = 87 := rfl
@[simp] theorem c87_own : c87.own = false := rfl
theorem c87_inj : ∀ u_ v_ : (List TFind), ((fun x => (fun (l : List TFind) => [encLTFind l]) x) u_).map nz = ((fun x => (fun (l : List TFind) => [encLTFind l]) x) v_).map nz → u_ = v_ := by
  intro u_ v_ h
  obtain l := u_
  obtain l' := v_
  simp [nz_lit, nz1_lit, nz_agg, nz_sl, nz1_sl, encLTFind] at h
  first | (simp [h]; done) | (obtain ⟨⟩ := h; simp_all; done) | simp_all
@[simp] theorem c87_fn (l : List TFind) : c87.fn [.sl false 8 yTFind (ML encTFind l)] [] = some ((fun (l : List TFind) => l.length ≤ 1073741823) l, (fun (l : List TFind) => (.own (0, 1) 8 0 (mDropTwins l).length : D)) l, (fun (l : List TFind) => [((0, 1), .arr false 8 yTFind (ML encTFind (mDropTwins l ++ tailT l (mTwinsOf l))))]) l) :=
  mkCon_fn (fun x y h _ => c87_inj x y h) (l : (List TFind)) (by simp [nz, nz1, ML_nil, encLTFind]) rfl
@[simp] theorem c87_fn1 (s_l : Nat) (z_l : D) : c87.fn [.sl false s_l z_l []] [] = some ((fun (l : List TFind) => l.length ≤ 1073741823) [], (fun (l : List TFind) => (.own (0, 1) 8 0 (mDropTwins l).length : D)) [], (fun (l : List TFind) => [((0, 1), .arr false 8 yTFind (ML encTFind (mDropTwins l ++ tailT l (mTwinsOf l))))]) []) :=
  mkCon_fn (fun x y h _ => c87_inj x y h) ([] : (List TFind)) (by simp [nz, nz1, ML_nil, encLTFind]) rfl
theorem c87_pc (l : List TFind) (hpre : l.length ≤ 1073741823) : PCo Try.prog 87 [encLTFind l] (Tab.of []) (.own (0, 1) 8 0 (mDropTwins l).length) (Tab.of [((0, 1), .arr false 8 yTFind (ML encTFind (mDropTwins l ++ tailT l (mTwinsOf l))))]) := by
  refine pco_of_run [] (E := ⟨[c83, c139, c140, c141], []⟩) (m := false) (base := 0) (Env.ok_cons c83_ok (Env.ok_cons c139_ok (Env.ok_cons c140_ok (Env.ok_cons c141_ok Env.ok_nil)))) G_ok mix 300 6 Try.func87 (by kernel_rfl) rfl (by kernel_rfl) (by kernel_rfl) rfl ?_
  simp [Try.f87]
  have := mTwinsOf_len l
  repeat' (first | omega | refine And.intro ?_ ?_ | intro _)
  all_goals rfl
theorem c87_ok : c87.ok Try.prog := mkCon_ok fun l hpre => c87_pc l hpre
/-- loop.example/g03007/spec.DropTwins -/
noncomputable def c86 : Con := mkCon 86 false (α := (List TFind)) (fun x => (fun (l : List TFind) => [encLTFind l]) x) (fun _ => []) (fun x => (fun (l : List TFind) => l.length ≤ 1073741823) x) (fun x => (fun (l : List TFind) => (.own (0, 1) 8 0 (mDropTwins l).length : D)) x) (fun x => (fun (l : List TFind) => [((0, 1), .arr false 8 yTFind (ML encTFind (mDropTwins l)))]) x)
@[simp] theorem c86_f : c86.f = 86 := rfl
@[simp] theorem c86_own : c86.own = false := rfl
theorem c86_inj : ∀ u_ v_ : (List TFind), ((fun x => (fun (l : List TFind) => [encLTFind l]) x) u_).map nz = ((fun x => (fun (l : List TFind) => [encLTFind l]) x) v_).map nz → u_ = v_ := by
  intro u_ v_ h
  obtain l := u_
  obtain l' := v_
  simp [nz_lit, nz1_lit, nz_agg, nz_sl, nz1_sl, encLTFind] at h
  first | (simp [h]; done) | (obtain ⟨⟩ := h; simp_all; done) | simp_all
@[simp] theorem c86_fn (l : List TFind) : c86.fn [.sl false 8 yTFind (ML encTFind l)] [] = some ((fun (l : List TFind) => l.length ≤ 1073741823) l, (fun (l : List TFind) => (.own (0, 1) 8 0 (mDropTwins l).length : D)) l, (fun (l : List TFind) => [((0, 1), .arr false 8 yTFind (ML encTFind (mDropTwins l)))]) l) :=
  mkCon_fn (fun x y h _ => c86_inj x y h) (l : (List TFind)) (by simp [nz, nz1, ML_nil, encLTFind]) rfl
@[simp] theorem c86_fn1 (s_l : Nat) (z_l : D) : c86.fn [.sl false s_l z_l []] [] = some ((fun (l : List TFind) => l.length ≤ 1073741823) [], (fun (l : List TFind) => (.own (0, 1) 8 0 (mDropTwins l).length : D)) [], (fun (l : List TFind) => [((0, 1), .arr false 8 yTFind (ML encTFind (mDropTwins l)))]) []) :=
  mkCon_fn (fun x y h _ => c86_inj x y h) ([] : (List TFind)) (by simp [nz, nz1, ML_nil, encLTFind]) rfl
theorem c86_pc (l : List TFind) (hpre : l.length ≤ 1073741823) : PCo Try.prog 86 [encLTFind l] (Tab.of []) (.own (0, 1) 8 0 (mDropTwins l).length) (Tab.of [((0, 1), .arr false 8 yTFind (ML encTFind (mDropTwins l)))]) := by
  refine pco_of_run [] (E := ⟨[c81, c119], []⟩) (m := false) (base := 0) (Env.ok_cons c81_ok (Env.ok_cons c119_ok Env.ok_nil)) G_ok mix 300 6 Try.func86 (by kernel_rfl) rfl (by kernel_rfl) (by kernel_rfl) rfl ?_
  simp [Try.f86]
  have htl := mTwinsOf_len l
  refine ⟨by omega, ?_⟩
  rw [show mDropTwins l = mDropK l (mTwinsOf l) from rfl]
  generalize mTwinsOf l = k at htl ⊢
  refine loop_inv (fun p : Nat => p ≤ l.length) (fun p => [(0, encLTFind l), (3, .own (0, 1) 8 0 ((l.take p).filter (notTw k)).length), (4, .own (1, 1) 1 0 k.length), (5, dI p)]) (fun p => [((0, 1), .arr false 8 yTFind (ML encTFind ((l.take p).filter (notTw k)))), ((1, 1), .arr false 1 (dI 0) (ML dI k))]) 2 (fun p => l.length - p) 0 400 (by simp) (by simp) (by simp) ?_
  intro p hp
  simp
  refine ⟨fun hlt => ?_, fun hge => ?_⟩
  · have hs := filtT_at (k := k) hlt
    have hl := filtT_len l k p
    repeat' (first | omega | refine And.intro ?_ ?_ | intro _)
    all_goals first | (rename_i hw; rw [if_pos hw, List.append_nil] at hs; exact Again.mk (p + 1) (by omega) (by simp [hs]) (by first | omega | (simp; omega))) | (rename_i hw; rw [if_neg hw] at hs; exact Again.mk (p + 1) (by omega) (by simp [hs]) (by first | omega | (simp; omega)))
  · rw [List.take_of_length_le hge]; simp [mDropK]
theorem c86_ok : c86.ok Try.prog := mkCon_ok fun l hpre => c86_pc l hpre
/-- loop.example/g03007/laws.FnExactDropTwins -/
theorem law21 (l : List TFind) (wl : wfLTFind l) : PCo Try.prog 21 [encLTFind l] (Tab.of []) (dB true) (Tab.of []) := by
  refine pco_of_run [] (E := ⟨[c80, c82, c84, c85, c86, c87, c88], []⟩) (m := false) (base := 0) (Env.ok_cons c80_ok (Env.ok_cons c82_ok (Env.ok_cons c84_ok (Env.ok_cons c85_ok (Env.ok_cons c86_ok (Env.ok_cons c87_ok (Env.ok_cons c88_ok Env.ok_nil))))))) G_ok mix 400 6 Try.func21 (by kernel_rfl) rfl (by kernel_rfl) (by kernel_rfl) rfl ?_
  simp (config := {maxSteps := 3000000}) [Try.f21]
  have h1 : l.length ≤ maxLen := wl.1
  have hb2 : (mDropTwins l).length ≤ l.length := mDropK_len l _
  have hb := mTwinsOf_len l
  refine ⟨h1, fun h => ?_⟩
  split at h
  · omega
  · repeat' (first | omega | refine And.intro ?_ ?_ | intro _)
theorem law21_pc (D0 : D) (h0 : Sh G 9 81 D0) : PC Try.prog 21 [D0] (dB true) [] := by
  obtain ⟨l, rfl, wl⟩ := sh81 (n := 5) h0
  exact law21 l wl

end Go.Proofs.Ytadbjlnfdjbbjaa
