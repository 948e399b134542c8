/- Contracts of the functions that the laws run. -/
import Derived.Test.Ytpnfkjbnhholfaach19s
import Derived.Test.YtpnfkjbnhholfaahelpA
import Derived.Test.Ytpnfkjbnhholfaagen
import Derived.Test.YtpnfkjbnhholfaaEngB
namespace Go.Proofs.Ytpnfkjbnhholfaa
open Go Go.Eng
set_option linter.unusedSimpArgs false
set_option linter.unusedVariables false
set_option maxRecDepth 10000
set_option maxHeartbeats 1000000
def whoIs (k : Int) (x : TBid) : Bool := decide (x.Who = k)
def whoNot (k : Int) (x : TBid) : Bool := !whoIs k x
def mWithout (l : List TBid) (k : Int) : List TBid := l.filter (whoNot k)
theorem mWithout_len (l : List TBid) (k : Int) : (mWithout l k).length ≤ l.length := List.length_filter_le _ _
theorem filt_at {l : List TBid} {k : Int} {p : Nat} (h : p < l.length) : (l.take (p + 1)).filter (whoNot k) = (l.take p).filter (whoNot k) ++ if (l[p]?.getD default).Who = k then [] else [l[p]?.getD default] := by
  rw [take_at (d := default) h, List.filter_append]
  congr 1
  by_cases hk : (l[p]?.getD default).Who = k <;> simp [List.filter, whoNot, whoIs, hk]
theorem filt_len (l : List TBid) (k : Int) (p : Nat) : ((l.take p).filter (whoNot k)).length ≤ p := by
  refine Nat.le_trans (List.length_filter_le _ _) ?_
  simp; omega
/-- loop.example/g03007/impl.WithoutBid$1 -/
noncomputable def c138 : Con := mkCon 138 false (α := TBid × Int) (fun x => (fun (x : TBid) (k : Int) => ([encTBid x, .el (dI k)] : List D)) x.1 x.2) (fun x => (fun (x : TBid) (k : Int) => ([] : List (Nm × OO))) x.1 x.2) (fun x => (fun (x : TBid) (k : Int) => True) x.1 x.2) (fun x => (fun (x : TBid) (k : Int) => (dB (whoIs k x) : D)) x.1 x.2) (fun x => (fun (x : TBid) (k : Int) => ([] : List (Nm × OO))) x.1 x.2)
@[simp] theorem c138_f : c138.f = 138 := rfl
@[simp] theorem c138_own : c138.own = false := rfl
theorem c138_inj : ∀ u_ v_ : TBid × Int, ((fun x => (fun (x : TBid) (k : Int) => ([encTBid x, .el (dI k)] : List D)) x.1 x.2) u_).map nz = ((fun x => (fun (x : TBid) (k : Int) => ([encTBid x, .el (dI k)] : List D)) x.1 x.2) v_).map nz → (fun x => (fun (x : TBid) (k : Int) => ([] : List (Nm × OO))) x.1 x.2) u_ = (fun x => (fun (x : TBid) (k : Int) => ([] : List (Nm × OO))) x.1 x.2) v_ → u_ = v_ := by
  intro u_ v_ h h2_
  obtain ⟨⟨x_Who, x_Cents, x_Seal⟩, k⟩ := u_
  obtain ⟨⟨x_Who', x_Cents', x_Seal'⟩, k'⟩ := v_
  simp [nz_lit, nz1_lit, nz_agg, nz_sl, nz1_sl, nz_sx, nz_el, nz1_el, nz_own, nz1_own, nz_ptr, nz_fn, nz_iface] at h h2_
  first | (simp [h, h2_]; done) | (obtain ⟨h3_, h4_⟩ := List.append_inj h2_ h.1; simp_all; done) | simp_all | grind
@[simp] theorem c138_fn (x_Who : Int) (x_Cents : Int) (x_Seal : Int) (k : Int) : c138.fn ([.agg [.lit (.int .i64 x_Who), .lit (.int .i64 x_Cents), .lit (.int .i64 x_Seal)], .el (dI k)]) ([]) = some (True, dB (whoIs k (⟨x_Who, x_Cents, x_Seal⟩ : TBid)), []) :=
  mkCon_fn c138_inj ((⟨x_Who, x_Cents, x_Seal⟩, k) : TBid × Int) rfl rfl
theorem c138_pc (x : TBid) (k : Int) : PCo Try.prog 138 ([encTBid x, .el (dI k)]) (Tab.of ([])) (dB (whoIs k x)) (Tab.of ([])) := by
  refine pco_of_run [] (E := ⟨[], [], []⟩) (m := false) (base := 0) Env.ok_nil G_ok mix 300 6 Try.func138 (by kernel_rfl) rfl (by kernel_rfl) (by kernel_rfl) rfl ?_
  simp [Try.f138]
  first | done | rfl
theorem c138_ok : c138.ok Try.prog := mkCon_ok fun ⟨x, k⟩ hpre => c138_pc x k
/-- slices.IndexFunc[[]loop.example/g03007/impl.Bi -/
noncomputable def c184 : Con := mkCon 184 false (α := (List TBid) × Int) (fun x => (fun (l : List TBid) (k : Int) => ([encLTBid l, .fn (.func 138) [] [.el (dI k)]] : List D)) x.1 x.2) (fun x => (fun (l : List TBid) (k : Int) => ([] : List (Nm × OO))) x.1 x.2) (fun x => (fun (l : List TBid) (k : Int) => l.length ≤ 1099511627776) x.1 x.2) (fun x => (fun (l : List TBid) (k : Int) => (dI (indexBy (whoIs k) 0 l) : D)) x.1 x.2) (fun x => (fun (l : List TBid) (k : Int) => ([] : List (Nm × OO))) x.1 x.2)
@[simp] theorem c184_f : c184.f = 184 := rfl
@[simp] theorem c184_own : c184.own = false := rfl
theorem c184_inj : ∀ u_ v_ : (List TBid) × Int, ((fun x => (fun (l : List TBid) (k : Int) => ([encLTBid l, .fn (.func 138) [] [.el (dI k)]] : List D)) x.1 x.2) u_).map nz = ((fun x => (fun (l : List TBid) (k : Int) => ([encLTBid l, .fn (.func 138) [] [.el (dI k)]] : List D)) x.1 x.2) v_).map nz → (fun x => (fun (l : List TBid) (k : Int) => ([] : List (Nm × OO))) x.1 x.2) u_ = (fun x => (fun (l : List TBid) (k : Int) => ([] : List (Nm × OO))) x.1 x.2) v_ → u_ = v_ := by
  intro u_ v_ h h2_
  obtain ⟨l, k⟩ := u_
  obtain ⟨l', k'⟩ := v_
  simp [nz_lit, nz1_lit, nz_agg, nz_sl, nz1_sl, nz_sx, nz_el, nz1_el, nz_own, nz1_own, nz_ptr, nz_fn, nz_iface] at h h2_
  first | (simp [h, h2_]; done) | (obtain ⟨h3_, h4_⟩ := List.append_inj h2_ h.1; simp_all; done) | simp_all | grind
@[simp] theorem c184_fn (l : List TBid) (k : Int) : c184.fn ([(.sl false 3 yTBid (ML encTBid l)), .fn (.func 138) [] [.el (dI k)]]) ([]) = some (l.length ≤ 1099511627776, dI (indexBy (whoIs k) 0 l), []) :=
  mkCon_fn c184_inj ((l, k) : (List TBid) × Int) rfl rfl
theorem c184_pc (l : List TBid) (k : Int) (hpre : l.length ≤ 1099511627776) : PCo Try.prog 184 ([encLTBid l, .fn (.func 138) [] [.el (dI k)]]) (Tab.of ([])) (dI (indexBy (whoIs k) 0 l)) (Tab.of ([])) := by
  refine pco_of_run [] (E := ⟨[c138], [], []⟩) (m := false) (base := 0) (Env.ok_cons c138_ok Env.ok_nil) G_ok mix 300 6 Try.func184 (by kernel_rfl) rfl (by kernel_rfl) (by kernel_rfl) rfl ?_
  simp [Try.f184]
  refine loop_inv (fun p : Nat => p ≤ l.length ∧ indexBy (whoIs k) 0 l = indexBy (whoIs k) p (l.drop p)) (fun p => [(0, encLTBid l), (1, .fn (.func 138) [] [.el (dI k)]), (7, dI l.length), (8, dI p)]) (fun _ => []) 1 (fun p => l.length - p) 0 400 (by simp) (by simp) (by simp) ?_
  intro p ⟨hp, hi⟩
  simp
  refine ⟨fun hlt => ?_, fun hge => ?_⟩
  · rw [indexBy_at (d := default) hlt] at hi
    repeat' (first | omega | refine And.intro ?_ ?_ | intro _)
    all_goals first | exact Again.mk (p + 1) ⟨by omega, by rw [hi]; grind⟩ (by simp) (by first | omega | (simp; omega)) | (rw [hi]; grind)
  · rw [hi, indexBy_end hge]
theorem c184_ok : c184.ok Try.prog := mkCon_ok fun ⟨l, k⟩ hpre => c184_pc l k hpre
theorem preL_app {α : Type} (l t : List α) : preL l.length (l ++ t) = l := by simp [preL]
attribute [simp] preL_app
def tailD (l : List TBid) (k : Int) : List TBid := List.replicate (l.length - (mWithout l k).length) default
theorem view_app {α : Type} (A T : List α) : (if A.length = A.length + T.length then A ++ T else A) = A := by
  split
  · rename_i h
    have : T = [] := by apply List.eq_nil_of_length_eq_zero; omega
    simp [this]
  · rfl
theorem view_app2 {α : Type} (A T : List α) [Decidable (T = [])] : (if T = [] then A ++ T else A) = A := by
  split
  · rename_i h; simp [h]
  · rfl
attribute [simp] view_app view_app2
theorem indexBy_spec {α : Type} {w : α → Bool} {d : α} : ∀ (l : List α) (i : Int), 0 ≤ i → (indexBy w i l = -1 ∧ ∀ x ∈ l, w x = false) ∨ ∃ n : Nat, n < l.length ∧ indexBy w i l = i + n ∧ (∀ x ∈ l.take n, w x = false) ∧ w (l[n]?.getD d) = true
  | [], i, _ => .inl ⟨rfl, by simp⟩
  | x :: l, i, hi => by
    simp only [indexBy]
    by_cases h : w x = true
    · right; exact ⟨0, by simp, by simp [h], by simp, by simpa using h⟩
    · rw [if_neg h]
      rcases indexBy_spec (w := w) (d := d) l (i + 1) (by omega) with ⟨h1, h2⟩ | ⟨n, h1, h2, h3, h4⟩
      · left
        refine ⟨h1, fun y hy => ?_⟩
        rcases List.mem_cons.1 hy with rfl | hy
        · simpa using h
        · exact h2 y hy
      · right
        refine ⟨n + 1, by simp; omega, by rw [h2]; push_cast; omega, fun y hy => ?_, by simpa using h4⟩
        rw [List.take_succ_cons] at hy
        rcases List.mem_cons.1 hy with rfl | hy
        · simpa using h
        · exact h3 y hy
theorem filt_all {l : List TBid} {k : Int} (h : ∀ x ∈ l, whoIs k x = false) : l.filter (whoNot k) = l := by
  rw [List.filter_eq_self]; intro x hx; simp [whoNot, h x hx]
def rowD (l : List TBid) (k : Int) (q : Nat × List TBid) : List TBid := (l.take q.1).filter (whoNot k) ++ (q.2 ++ l.drop q.1)
theorem rowD_get {l : List TBid} {k : Int} {p : Nat} {M : List TBid} (h : ((l.take p).filter (whoNot k)).length + M.length = p) : (rowD l k (p, M))[p]?.getD default = l[p]?.getD default := by
  simp only [rowD]
  rw [List.getElem?_append_right (by omega), List.getElem?_append_right (by omega)]
  have : p - ((l.take p).filter (whoNot k)).length - M.length = 0 := by omega
  rw [this]; simp
theorem rowD_len {l : List TBid} {k : Int} {p : Nat} {M : List TBid} (h : ((l.take p).filter (whoNot k)).length + M.length = p) (hp : p ≤ l.length) : (rowD l k (p, M)).length = l.length := by
  simp [rowD]; omega
theorem rowD_set {l : List TBid} {k : Int} {p : Nat} {M : List TBid} (hM : 0 < M.length) (hp : p < l.length) (hw : ¬ (l[p]?.getD default).Who = k) : (rowD l k (p, M)).set ((l.take p).filter (whoNot k)).length (l[p]?.getD default) = rowD l k (p + 1, M.tail ++ [l[p]?.getD default]) := by
  simp only [rowD]
  rw [List.set_append_right _ _ (Nat.le_refl _), Nat.sub_self, filt_at hp, if_neg hw]
  cases M with
  | nil => simp at hM
  | cons m M => simp [drop_at (d := default) hp]
theorem rowD_stay {l : List TBid} {k : Int} {p : Nat} {M : List TBid} (hp : p < l.length) (hw : (l[p]?.getD default).Who = k) : rowD l k (p, M) = rowD l k (p + 1, M ++ [l[p]?.getD default]) := by
  simp only [rowD]
  rw [filt_at hp, if_pos hw, drop_at (d := default) hp]; simp
theorem rowD_end {l : List TBid} {k : Int} {M : List TBid} : rowD l k (l.length, M) = mWithout l k ++ M := by simp [rowD, mWithout]
/-- slices.DeleteFunc[[]loop.example/g03007/impl.Bi -/
noncomputable def c136 : Con := mkCon 136 true (α := (List TBid) × Int) (fun x => (fun (l : List TBid) (k : Int) => ([.own (0, 0) 3 0 l.length, .fn (.func 138) [] [.ptr (1, 0) 0]] : List D)) x.1 x.2) (fun x => (fun (l : List TBid) (k : Int) => ([((0, 0), .arr false 3 yTBid (ML encTBid l)), ((1, 0), .box (dI k))] : List (Nm × OO))) x.1 x.2) (fun x => (fun (l : List TBid) (k : Int) => l.length ≤ 1099511627776) x.1 x.2) (fun x => (fun (l : List TBid) (k : Int) => (.own (0, 0) 3 0 (mWithout l k).length : D)) x.1 x.2) (fun x => (fun (l : List TBid) (k : Int) => ([((0, 0), .arr false 3 yTBid (ML encTBid (mWithout l k ++ tailD l k))), ((1, 0), .box (dI k))] : List (Nm × OO))) x.1 x.2)
@[simp] theorem c136_f : c136.f = 136 := rfl
@[simp] theorem c136_own : c136.own = true := rfl
theorem c136_inj : ∀ u_ v_ : (List TBid) × Int, ((fun x => (fun (l : List TBid) (k : Int) => ([.own (0, 0) 3 0 l.length, .fn (.func 138) [] [.ptr (1, 0) 0]] : List D)) x.1 x.2) u_).map nz = ((fun x => (fun (l : List TBid) (k : Int) => ([.own (0, 0) 3 0 l.length, .fn (.func 138) [] [.ptr (1, 0) 0]] : List D)) x.1 x.2) v_).map nz → (fun x => (fun (l : List TBid) (k : Int) => ([((0, 0), .arr false 3 yTBid (ML encTBid l)), ((1, 0), .box (dI k))] : List (Nm × OO))) x.1 x.2) u_ = (fun x => (fun (l : List TBid) (k : Int) => ([((0, 0), .arr false 3 yTBid (ML encTBid l)), ((1, 0), .box (dI k))] : List (Nm × OO))) x.1 x.2) v_ → u_ = v_ := by
  intro u_ v_ h h2_
  obtain ⟨l, k⟩ := u_
  obtain ⟨l', k'⟩ := v_
  simp [nz_lit, nz1_lit, nz_agg, nz_sl, nz1_sl, nz_sx, nz_el, nz1_el, nz_own, nz1_own, nz_ptr, nz_fn, nz_iface] at h h2_
  first | (simp [h, h2_]; done) | (obtain ⟨h3_, h4_⟩ := List.append_inj h2_ h.1; simp_all; done) | simp_all | grind
@[simp] theorem c136_fn (l : List TBid) (k : Int) : c136.fn ([.own (0, 0) 3 0 l.length, .fn (.func 138) [] [.ptr (1, 0) 0]]) ([((0, 0), .arr false 3 yTBid (ML encTBid l)), ((1, 0), .box (dI k))]) = some (l.length ≤ 1099511627776, .own (0, 0) 3 0 (mWithout l k).length, [((0, 0), .arr false 3 yTBid (ML encTBid (mWithout l k ++ tailD l k))), ((1, 0), .box (dI k))]) :=
  mkCon_fn c136_inj ((l, k) : (List TBid) × Int) rfl rfl
theorem c136_pc (l : List TBid) (k : Int) (hpre : l.length ≤ 1099511627776) : PCo Try.prog 136 ([.own (0, 0) 3 0 l.length, .fn (.func 138) [] [.ptr (1, 0) 0]]) (Tab.of ([((0, 0), .arr false 3 yTBid (ML encTBid l)), ((1, 0), .box (dI k))])) (.own (0, 0) 3 0 (mWithout l k).length) (Tab.of ([((0, 0), .arr false 3 yTBid (ML encTBid (mWithout l k ++ tailD l k))), ((1, 0), .box (dI k))])) := by
  refine pco_of_run [] (E := ⟨[c184, c138], [], []⟩) (m := false) (base := 0) (Env.ok_cons c184_ok (Env.ok_cons c138_ok Env.ok_nil)) G_ok mix 300 6 Try.func136 (by kernel_rfl) rfl (by kernel_rfl) (by kernel_rfl) rfl ?_
  simp [Try.f136]
  rcases indexBy_spec (w := whoIs k) (d := default) l 0 (by omega) with ⟨h1, h2⟩ | ⟨n, h1, h2, h3, h4⟩
  · have hf : mWithout l k = l := filt_all h2
    refine ⟨hpre, fun _ => ?_, fun h => absurd h1 h⟩
    simp [tailD, hf]
  have h2' : indexBy (whoIs k) 0 l = n := by omega
  simp only [h2']
  refine ⟨hpre, fun h => by omega, fun _ => ⟨by omega, ?_⟩⟩
  have hA : (l.take n).filter (whoNot k) = l.take n := filt_all h3
  have hA2 : (l.take (n + 1)).filter (whoNot k) = l.take n := by
    rw [filt_at h1, if_pos (by simpa [whoIs] using h4), hA, List.append_nil]
  have hR : l = rowD l k (n + 1, [l[n]?.getD default]) := by
    simp only [rowD, hA2]
    have := drop_at (d := default) h1
    rw [← List.append_assoc]
    conv => lhs; rw [← List.take_append_drop n l, this]
    simp
  have hn : min n l.length = n := by omega
  refine loop_inv (fun q : Nat × List TBid => q.1 ≤ l.length ∧ ((l.take q.1).filter (whoNot k)).length + q.2.length = q.1 ∧ 0 < q.2.length) (fun q => [(0, .own (0, 0) 3 0 l.length), (1, .fn (.func 138) [] [.ptr (1, 0) 0]), (5, dI ((l.take q.1).filter (whoNot k)).length), (6, dI q.1)]) (fun q => [((0, 0), .arr false 3 yTBid (ML encTBid (rowD l k q))), ((1, 0), .box (dI k))]) 2 (fun q => l.length - q.1) (n + 1, [l[n]?.getD default]) 400 (by simp) (by simp [hA2]; omega) (by simp [hA2, ← hR, hn]) ?_
  intro ⟨p, M⟩ ⟨hp, hM, hM0⟩
  simp only at hp hM hM0
  have hl := rowD_len hM hp
  simp [hl]
  refine ⟨fun hlt => ?_, fun hge => ?_⟩
  · simp only [rowD_get hM]
    have hA3 := filt_at (k := k) hlt
    refine ⟨hlt, fun hw => ?_, fun hw => ?_⟩
    · have hw2 : ¬ (l[p]?.getD default).Who = k := by simpa [whoIs] using hw
      rw [if_neg hw2] at hA3
      have hs := rowD_set hM0 hlt hw2
      repeat' (first | omega | refine And.intro ?_ ?_ | intro _)
      refine Again.mk (p + 1, M.tail ++ [l[p]?.getD default]) ⟨by simp; omega, by simp [hA3]; omega, by simp⟩ ?_ (by first | omega | (simp; omega))
      simp [hA3, hs]
    · have hw2 : (l[p]?.getD default).Who = k := by simpa [whoIs] using hw
      rw [if_pos hw2, List.append_nil] at hA3
      have hs := rowD_stay (M := M) hlt hw2
      repeat' (first | omega | refine And.intro ?_ ?_ | intro _)
      refine Again.mk (p + 1, M ++ [l[p]?.getD default]) ⟨by simp; omega, by simp [hA3]; omega, by simp⟩ ?_ (by first | omega | (simp; omega))
      simp [hA3, ← hs]
  · have : p = l.length := by omega
    subst this
    simp only [rowD_end]
    have hA4 : (l.take l.length).filter (whoNot k) = mWithout l k := by rw [List.take_length]; rfl
    have hml := mWithout_len l k
    simp only [hA4] at hM ⊢
    refine ⟨⟨by omega, by omega⟩, by omega, trivial, ?_⟩
    first | (rw [List.take_left' rfl, List.drop_of_length_le (by simp; omega), List.append_nil]; rfl) | (rw [List.take_left' rfl, List.drop_of_length_le (by simp; omega)]; simp only [tailD, ML, List.map_append, List.map_replicate, List.map_nil, List.append_nil]; rfl)
theorem c136_ok : c136.ok Try.prog := mkCon_ok fun ⟨l, k⟩ hpre => c136_pc l k hpre
/-- loop.example/g03007/impl.WithoutBid -/
noncomputable def c63 : Con := mkCon 63 false (α := (List TBid) × Int) (fun x => (fun (l : List TBid) (k : Int) => [encLTBid l, dI k]) x.1 x.2) (fun _ => []) (fun x => (fun (l : List TBid) (k : Int) => l.length ≤ 1073741823) x.1 x.2) (fun x => (fun (l : List TBid) (k : Int) => (.own (0, 1) 3 0 (mWithout l k).length : D)) x.1 x.2) (fun x => (fun (l : List TBid) (k : Int) => [((0, 1), .arr false 3 yTBid (ML encTBid (mWithout l k ++ tailD l k)))]) x.1 x.2)
@[simp] theorem c63_f : c63.f = 63 := rfl
@[simp] theorem c63_own : c63.own = false := rfl
theorem c63_inj : ∀ u_ v_ : (List TBid) × Int, ((fun x => (fun (l : List TBid) (k : Int) => [encLTBid l, dI k]) x.1 x.2) u_).map nz = ((fun x => (fun (l : List TBid) (k : Int) => [encLTBid l, dI k]) x.1 x.2) v_).map nz → u_ = v_ := by
  intro u_ v_ h
  obtain ⟨l, k⟩ := u_
  obtain ⟨l', k'⟩ := v_
  simp [nz_lit, nz1_lit, nz_agg, nz_sl, nz1_sl, encLTBid] at h
  first | (simp [h]; done) | (obtain ⟨⟩ := h; simp_all; done) | simp_all
@[simp] theorem c63_fn (l : List TBid) (k : Int) : c63.fn [.sl false 3 yTBid (ML encTBid l), .lit (.int .i64 k)] [] = some ((fun (l : List TBid) (k : Int) => l.length ≤ 1073741823) l k, (fun (l : List TBid) (k : Int) => (.own (0, 1) 3 0 (mWithout l k).length : D)) l k, (fun (l : List TBid) (k : Int) => [((0, 1), .arr false 3 yTBid (ML encTBid (mWithout l k ++ tailD l k)))]) l k) :=
  mkCon_fn (fun x y h _ => c63_inj x y h) ((l, k) : (List TBid) × Int) (by simp [nz, nz1, ML_nil, encLTBid]) rfl
@[simp] theorem c63_fn1 (s_l : Nat) (z_l : D) (k : Int) : c63.fn [.sl false s_l z_l [], .lit (.int .i64 k)] [] = some ((fun (l : List TBid) (k : Int) => l.length ≤ 1073741823) [] k, (fun (l : List TBid) (k : Int) => (.own (0, 1) 3 0 (mWithout l k).length : D)) [] k, (fun (l : List TBid) (k : Int) => [((0, 1), .arr false 3 yTBid (ML encTBid (mWithout l k ++ tailD l k)))]) [] k) :=
  mkCon_fn (fun x y h _ => c63_inj x y h) (([], k) : (List TBid) × Int) (by simp [nz, nz1, ML_nil, encLTBid]) rfl
theorem c63_pc (l : List TBid) (k : Int) (hpre : l.length ≤ 1073741823) : PCo Try.prog 63 [encLTBid l, dI k] (Tab.of []) (.own (0, 1) 3 0 (mWithout l k).length) (Tab.of [((0, 1), .arr false 3 yTBid (ML encTBid (mWithout l k ++ tailD l k)))]) := by
  refine pco_of_run [] (E := ⟨[c136, c137, c138], [], []⟩) (m := false) (base := 0) (Env.ok_cons c136_ok (Env.ok_cons c137_ok (Env.ok_cons c138_ok Env.ok_nil))) G_ok mix 300 6 Try.func63 (by kernel_rfl) rfl (by kernel_rfl) (by kernel_rfl) rfl ?_
  simp [Try.f63]
  omega
theorem c63_ok : c63.ok Try.prog := mkCon_ok fun ⟨l, k⟩ hpre => c63_pc l k hpre
end Go.Proofs.Ytpnfkjbnhholfaa
