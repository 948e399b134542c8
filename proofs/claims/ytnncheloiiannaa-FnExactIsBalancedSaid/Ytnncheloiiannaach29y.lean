/- Contracts of the functions that the laws run. -/
import Derived.Test.Ytnncheloiiannaaasc9
import Derived.Test.Ytnncheloiiannaacut
import Derived.Test.Ytnncheloiiannaach29w
import Derived.Test.YtnncheloiiannaaEngB
namespace Go.Proofs.Ytnncheloiiannaa
open Go Go.Eng
set_option linter.unusedSimpArgs false
set_option linter.unusedVariables false
set_option maxRecDepth 10000
set_option maxHeartbeats 1000000
def accL (l : List TEntry) : List Int := l.flatMap fun x => [x.From, x.To]
theorem accL_at {l : List TEntry} {p : Nat} (h : p < l.length) : accL (l.take (p + 1)) = accL (l.take p) ++ [(l[p]?.getD default).From, (l[p]?.getD default).To] := by
  rw [take_at (d := default) h]; simp [accL]
theorem accL_len : ∀ (l : List TEntry), (accL l).length = 2 * l.length
  | [] => rfl
  | x :: l => by have := accL_len l; simp only [accL, List.flatMap_cons, List.length_append, List.length_cons] at this ⊢; simp at this ⊢; omega
/-- loop.example/g03007/impl.AccountsOf -/
noncomputable def c25 : Con := mkCon 25 false (α := (List TEntry)) (fun x => (fun (l : List TEntry) => [encLTEntry l]) x) (fun _ => []) (fun x => (fun (l : List TEntry) => l.length ≤ 1048576) x) (fun x => (fun (l : List TEntry) => (.own (0, 1) 1 0 (mOnce (accL l) []).length : D)) x) (fun x => (fun (l : List TEntry) => [((0, 1), .arr false 1 (dI 0) (ML dI (mOnceT (accL l) [])))]) x)
@[simp] theorem c25_f : c25.f = 25 := rfl
@[simp] theorem c25_own : c25.own = false := rfl
theorem c25_inj : ∀ u_ v_ : (List TEntry), ((fun x => (fun (l : List TEntry) => [encLTEntry l]) x) u_).map nz = ((fun x => (fun (l : List TEntry) => [encLTEntry l]) x) v_).map nz → u_ = v_ := by
  intro u_ v_ h
  obtain l := u_
  obtain l' := v_
  simp [nz_lit, nz1_lit, nz_agg, nz_sl, nz1_sl, encLTEntry] at h
  first | (simp [h]; done) | (obtain ⟨⟩ := h; simp_all; done) | simp_all
@[simp] theorem c25_fn (l : List TEntry) : c25.fn [.sl false 4 yTEntry (ML encTEntry l)] [] = some ((fun (l : List TEntry) => l.length ≤ 1048576) l, (fun (l : List TEntry) => (.own (0, 1) 1 0 (mOnce (accL l) []).length : D)) l, (fun (l : List TEntry) => [((0, 1), .arr false 1 (dI 0) (ML dI (mOnceT (accL l) [])))]) l) :=
  mkCon_fn (fun x y h _ => c25_inj x y h) (l : (List TEntry)) (by simp [nz, nz1, ML_nil, encLTEntry]) rfl
@[simp] theorem c25_fn1 (s_l : Nat) (z_l : D) : c25.fn [.sl false s_l z_l []] [] = some ((fun (l : List TEntry) => l.length ≤ 1048576) [], (fun (l : List TEntry) => (.own (0, 1) 1 0 (mOnce (accL l) []).length : D)) [], (fun (l : List TEntry) => [((0, 1), .arr false 1 (dI 0) (ML dI (mOnceT (accL l) [])))]) []) :=
  mkCon_fn (fun x y h _ => c25_inj x y h) ([] : (List TEntry)) (by simp [nz, nz1, ML_nil, encLTEntry]) rfl
theorem c25_pc (l : List TEntry) (hpre : l.length ≤ 1048576) : PCo Try.prog 25 [encLTEntry l] (Tab.of []) (.own (0, 1) 1 0 (mOnce (accL l) []).length) (Tab.of [((0, 1), .arr false 1 (dI 0) (ML dI (mOnceT (accL l) [])))]) := by
  refine pco_of_run [] (E := ⟨[c44, c45], [], []⟩) (m := false) (base := 0) (Env.ok_cons c44_ok (Env.ok_cons c45_ok Env.ok_nil)) G_ok mix 300 6 Try.func25 (by kernel_rfl) rfl (by kernel_rfl) (by kernel_rfl) rfl ?_
  simp [Try.f25]
  refine loop_inv (fun p : Nat => p ≤ l.length) (fun p => [(3, .own (0, 1) 1 0 (accL (l.take p)).length), (8, encLTEntry l), (9, dI l.length), (10, dI p)]) (fun p => [((0, 1), .arr false 1 (dI 0) (ML dI (accL (l.take p))))]) 2 (fun p => l.length - p) 0 400 (by simp) (by simp) (by simp [accL]) ?_
  intro p hp
  have hl := accL_len (l.take p)
  have hl2 : (l.take p).length ≤ l.length := by simp; omega
  simp
  refine ⟨fun hlt => ?_, fun hge => ?_⟩
  · have hs := accL_at hlt
    refine ⟨hlt, by omega, by omega, ?_⟩
    exact Again.mk (p + 1) (by omega) (by simp [hs] <;> simp [ML]) (by first | omega | (simp; omega))
  · rw [List.take_of_length_le hge] at *
    exact ⟨by omega, rfl, rfl⟩
theorem c25_ok : c25.ok Try.prog := mkCon_ok fun l hpre => c25_pc l hpre
theorem acc_pc (l : List TEntry) (hpre : l.length ≤ 1048576) : PCo Try.prog 25 [encLTEntry l] (Tab.of []) (.own (0, 1) 1 0 (mOnce (accL l) []).length) (Tab.of [((0, 1), .arr false 1 (dI 0) (ML dI (mOnceT (accL l) [])))]) := c25_pc l hpre
/-- loop.example/g03007/impl.AccountsOf -/
noncomputable def c25f : Con := mkCon 25 false (α := (List TEntry)) (fun x => (fun (l : List TEntry) => [encLTEntry l]) x) (fun _ => []) (fun x => (fun (l : List TEntry) => l.length ≤ 1048576) x) (fun x => (fun (l : List TEntry) => (.own (0, 1) 1 0 (mOnce (accL l) []).length : D)) x) (fun x => (fun (l : List TEntry) => [((0, 1), .arr false 1 (dI 0) (ML dI (mOnce (accL l) [])))]) x)
@[simp] theorem c25f_f : c25f.f = 25 := rfl
@[simp] theorem c25f_own : c25f.own = false := rfl
theorem c25f_inj : ∀ u_ v_ : (List TEntry), ((fun x => (fun (l : List TEntry) => [encLTEntry l]) x) u_).map nz = ((fun x => (fun (l : List TEntry) => [encLTEntry l]) x) v_).map nz → u_ = v_ := by
  intro u_ v_ h
  obtain l := u_
  obtain l' := v_
  simp [nz_lit, nz1_lit, nz_agg, nz_sl, nz1_sl, encLTEntry] at h
  first | (simp [h]; done) | (obtain ⟨⟩ := h; simp_all; done) | simp_all
@[simp] theorem c25f_fn (l : List TEntry) : c25f.fn [.sl false 4 yTEntry (ML encTEntry l)] [] = some ((fun (l : List TEntry) => l.length ≤ 1048576) l, (fun (l : List TEntry) => (.own (0, 1) 1 0 (mOnce (accL l) []).length : D)) l, (fun (l : List TEntry) => [((0, 1), .arr false 1 (dI 0) (ML dI (mOnce (accL l) [])))]) l) :=
  mkCon_fn (fun x y h _ => c25f_inj x y h) (l : (List TEntry)) (by simp [nz, nz1, ML_nil, encLTEntry]) rfl
@[simp] theorem c25f_fn1 (s_l : Nat) (z_l : D) : c25f.fn [.sl false s_l z_l []] [] = some ((fun (l : List TEntry) => l.length ≤ 1048576) [], (fun (l : List TEntry) => (.own (0, 1) 1 0 (mOnce (accL l) []).length : D)) [], (fun (l : List TEntry) => [((0, 1), .arr false 1 (dI 0) (ML dI (mOnce (accL l) [])))]) []) :=
  mkCon_fn (fun x y h _ => c25f_inj x y h) ([] : (List TEntry)) (by simp [nz, nz1, ML_nil, encLTEntry]) rfl
theorem c25f_pc (l : List TEntry) (hpre : l.length ≤ 1048576) : PCo Try.prog 25 [encLTEntry l] (Tab.of []) (.own (0, 1) 1 0 (mOnce (accL l) []).length) (Tab.of [((0, 1), .arr false 1 (dI 0) (ML dI (mOnce (accL l) [])))]) := by
  have h := acc_pc l hpre
  rw [mOnceT, ← ML_app] at h
  exact pco_cut h
theorem c25f_ok : c25f.ok Try.prog := mkCon_ok fun l hpre => c25f_pc l hpre
theorem foldl_len : ∀ (l a : List Int), (l.foldl putI a).length ≤ a.length + l.length
  | [], a => by simp
  | x :: l, a => by
    have h1 := foldl_len l (putI a x)
    have h2 := putI_len a x
    simp only [List.foldl_cons, List.length_cons]; omega
/-- loop.example/g03007/spec.AccountsOf -/
noncomputable def c16 : Con := mkCon 16 false (α := (List TEntry)) (fun x => (fun (l : List TEntry) => [encLTEntry l]) x) (fun _ => []) (fun x => (fun (l : List TEntry) => l.length ≤ 1048576) x) (fun x => (fun (l : List TEntry) => (.own (0, 1) 1 0 (mOnce (accL l) []).length : D)) x) (fun x => (fun (l : List TEntry) => [((0, 1), .arr false 1 (dI 0) (ML dI (mOnce (accL l) [])))]) x)
@[simp] theorem c16_f : c16.f = 16 := rfl
@[simp] theorem c16_own : c16.own = false := rfl
theorem c16_inj : ∀ u_ v_ : (List TEntry), ((fun x => (fun (l : List TEntry) => [encLTEntry l]) x) u_).map nz = ((fun x => (fun (l : List TEntry) => [encLTEntry l]) x) v_).map nz → u_ = v_ := by
  intro u_ v_ h
  obtain l := u_
  obtain l' := v_
  simp [nz_lit, nz1_lit, nz_agg, nz_sl, nz1_sl, encLTEntry] at h
  first | (simp [h]; done) | (obtain ⟨⟩ := h; simp_all; done) | simp_all
@[simp] theorem c16_fn (l : List TEntry) : c16.fn [.sl false 4 yTEntry (ML encTEntry l)] [] = some ((fun (l : List TEntry) => l.length ≤ 1048576) l, (fun (l : List TEntry) => (.own (0, 1) 1 0 (mOnce (accL l) []).length : D)) l, (fun (l : List TEntry) => [((0, 1), .arr false 1 (dI 0) (ML dI (mOnce (accL l) [])))]) l) :=
  mkCon_fn (fun x y h _ => c16_inj x y h) (l : (List TEntry)) (by simp [nz, nz1, ML_nil, encLTEntry]) rfl
@[simp] theorem c16_fn1 (s_l : Nat) (z_l : D) : c16.fn [.sl false s_l z_l []] [] = some ((fun (l : List TEntry) => l.length ≤ 1048576) [], (fun (l : List TEntry) => (.own (0, 1) 1 0 (mOnce (accL l) []).length : D)) [], (fun (l : List TEntry) => [((0, 1), .arr false 1 (dI 0) (ML dI (mOnce (accL l) [])))]) []) :=
  mkCon_fn (fun x y h _ => c16_inj x y h) ([] : (List TEntry)) (by simp [nz, nz1, ML_nil, encLTEntry]) rfl
theorem c16_pc (l : List TEntry) (hpre : l.length ≤ 1048576) : PCo Try.prog 16 [encLTEntry l] (Tab.of []) (.own (0, 1) 1 0 (mOnce (accL l) []).length) (Tab.of [((0, 1), .arr false 1 (dI 0) (ML dI (mOnce (accL l) [])))]) := by
  refine pco_of_run [3005] (E := ⟨[c35], [], []⟩) (m := false) (base := 0) (Env.ok_cons c35_ok Env.ok_nil) G_ok mix 300 6 Try.func16 (by kernel_rfl) rfl (by kernel_rfl) (by kernel_rfl) rfl ?_
  simp [Try.f16]
  refine loop_inv (fun p : Nat => p ≤ l.length) (fun p => [(0, encLTEntry l), (3, .own (0, 1) 1 0 ((accL (l.take p)).foldl putI []).length), (4, dI p)]) (fun p => [((0, 1), .arr false 1 (dI 0) (ML dI ((accL (l.take p)).foldl putI [])))]) 2 (fun p => l.length - p) 0 400 (by simp) (by simp) (by simp [accL]) ?_
  intro p hp
  have hl := accL_len (l.take p)
  have hl2 : (l.take p).length ≤ l.length := by simp; omega
  have hl3 := foldl_len (accL (l.take p)) []
  have hl4 := putI_len ((accL (l.take p)).foldl putI []) (l[p]?.getD default).From
  simp at hl3
  simp
  refine ⟨fun hlt => ?_, fun hge => ?_⟩
  · have hs : (accL (l.take (p + 1))).foldl putI [] = putI (putI ((accL (l.take p)).foldl putI []) (l[p]?.getD default).From) (l[p]?.getD default).To := by rw [accL_at hlt]; simp
    repeat' (first | omega | refine And.intro ?_ ?_ | intro _)
    all_goals first | exact Again.mk (p + 1) (by omega) (by simp [hs]) (by first | omega | (simp; omega)) | trace_state
  · rw [List.take_of_length_le hge]
    have h := once_fold (accL l) []
    rw [List.append_nil] at h
    rw [h]; simp
theorem c16_ok : c16.ok Try.prog := mkCon_ok fun l hpre => c16_pc l hpre

end Go.Proofs.Ytnncheloiiannaa
