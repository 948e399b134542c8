/- Contracts of the functions that the laws run. -/
import Derived.Test.Ytnkggfhgmdbfpaach19s
import Derived.Test.YtnkggfhgmdbfpaaEngB
namespace Go.Proofs.Ytnkggfhgmdbfpaa
open Go Go.Eng
set_option linter.unusedSimpArgs false
set_option linter.unusedVariables false
set_option maxRecDepth 10000
set_option maxHeartbeats 1000000
abbrev mk_TBid : Int → TBid := fun n => ⟨n, n + 1, n + 2⟩
/-- loop.example/g03007/laws.markBidS -/
noncomputable def c79 : Con := mkCon 79 true (α := (List TBid) × Int) (fun x => (fun (l : List TBid) (k : Int) => ([.own (0, 0) 3 0 l.length, dI k] : List D)) x.1 x.2) (fun x => (fun (l : List TBid) (k : Int) => ([((0, 0), .arr false 3 yTBid (ML encTBid l))] : List (Nm × OO))) x.1 x.2) (fun x => (fun (l : List TBid) (k : Int) => l.length ≤ 1099511627776 ∧ 0 ≤ k ∧ k ≤ 1152921504606846976) x.1 x.2) (fun x => (fun (l : List TBid) (k : Int) => (dI (k + 3 * l.length) : D)) x.1 x.2) (fun x => (fun (l : List TBid) (k : Int) => ([((0, 0), .arr false 3 yTBid (ML encTBid (mkL mk_TBid 3 k l.length)))] : List (Nm × OO))) x.1 x.2)
@[simp] theorem c79_f : c79.f = 79 := rfl
@[simp] theorem c79_own : c79.own = true := rfl
theorem c79_inj : ∀ u_ v_ : (List TBid) × Int, ((fun x => (fun (l : List TBid) (k : Int) => ([.own (0, 0) 3 0 l.length, dI k] : List D)) x.1 x.2) u_).map nz = ((fun x => (fun (l : List TBid) (k : Int) => ([.own (0, 0) 3 0 l.length, dI k] : List D)) x.1 x.2) v_).map nz → (fun x => (fun (l : List TBid) (k : Int) => ([((0, 0), .arr false 3 yTBid (ML encTBid l))] : List (Nm × OO))) x.1 x.2) u_ = (fun x => (fun (l : List TBid) (k : Int) => ([((0, 0), .arr false 3 yTBid (ML encTBid l))] : List (Nm × OO))) x.1 x.2) v_ → u_ = v_ := by
  intro u_ v_ h h2_
  obtain ⟨l, k⟩ := u_
  obtain ⟨l', k'⟩ := v_
  simp [nz_lit, nz1_lit, nz_agg, nz_sl, nz1_sl, nz_sx, nz_el, nz1_el, nz_own, nz1_own, nz_ptr, nz_fn, nz_iface] at h h2_
  first | (simp [h, h2_]; done) | (obtain ⟨h3_, h4_⟩ := List.append_inj h2_ h.1; simp_all; done) | simp_all | grind
@[simp] theorem c79_fn (l : List TBid) (k : Int) : c79.fn ([.own (0, 0) 3 0 l.length, dI k]) ([((0, 0), .arr false 3 yTBid (ML encTBid l))]) = some (l.length ≤ 1099511627776 ∧ 0 ≤ k ∧ k ≤ 1152921504606846976, dI (k + 3 * l.length), [((0, 0), .arr false 3 yTBid (ML encTBid (mkL mk_TBid 3 k l.length)))]) :=
  mkCon_fn c79_inj ((l, k) : (List TBid) × Int) rfl rfl
theorem c79_pc (l : List TBid) (k : Int) (hpre : l.length ≤ 1099511627776 ∧ 0 ≤ k ∧ k ≤ 1152921504606846976) : PCo Try.prog 79 ([.own (0, 0) 3 0 l.length, dI k]) (Tab.of ([((0, 0), .arr false 3 yTBid (ML encTBid l))])) (dI (k + 3 * l.length)) (Tab.of ([((0, 0), .arr false 3 yTBid (ML encTBid (mkL mk_TBid 3 k l.length)))])) := by
  refine pco_of_run [] (E := ⟨[], []⟩) (m := false) (base := 0) Env.ok_nil G_ok mix 300 6 Try.func79 (by kernel_rfl) rfl (by kernel_rfl) (by kernel_rfl) rfl ?_
  simp [Try.f79]
  obtain ⟨pre1, pre2, pre3⟩ := hpre
  refine loop_inv (fun p : Nat => p ≤ l.length) (fun p => [(0, .own (0, 0) 3 0 l.length), (1, dI (k + 3 * p)), (5, dI p)]) (fun p => [((0, 0), .arr false 3 yTBid (ML encTBid (mkL mk_TBid 3 k p ++ l.drop p)))]) 2 (fun p => l.length - p) 0 100 (by simp) (by simp) (by simp) ?_
  intro p hp
  simp
  have hs : ∀ x, x = mk_TBid (k + 3 * (p : Int)) → p < l.length → mkL mk_TBid 3 k p ++ (l.drop p).set 0 x = mkL mk_TBid 3 k (p + 1) ++ l.drop (p + 1) := fun x hx hlt => mark_step0 hlt hx
  refine ⟨fun hlt => ?_, fun hge => ?_⟩
  · repeat' (first | omega | refine And.intro ?_ ?_ | intro _)
    all_goals refine Again.mk (p + 1) (by omega) ?_ (by first | omega | (simp; omega))
    all_goals (rw [hs _ (by simp [mark_get0 hlt, mark_get hlt]; first | done | omega) hlt]; simp; omega)
  have : p = l.length := by omega
  subst this
  simp
  trace_state
theorem c79_ok : c79.ok Try.prog := mkCon_ok fun ⟨l, k⟩ hpre => c79_pc l k hpre
/-- loop.example/g03007/laws.FnExactWinner -/
theorem law13 (l : List TBid) (wl : wfLTBid l) : PCo Try.prog 13 [encLTBid l] (Tab.of []) (dB true) (Tab.of []) := by
  refine pco_of_run [] (E := ⟨[c72, c73, c74, c75, c76], []⟩) (m := false) (base := 0) (Env.ok_cons c72_ok (Env.ok_cons c73_ok (Env.ok_cons c74_ok (Env.ok_cons c75_ok (Env.ok_cons c76_ok Env.ok_nil))))) G_ok mix 400 6 Try.func13 (by kernel_rfl) rfl (by kernel_rfl) (by kernel_rfl) rfl ?_
  simp (config := {maxSteps := 3000000}) [Try.f13]
  have h_l : l.length ≤ maxLen := wl.1
  repeat' (first | omega | assumption | refine And.intro ?_ ?_ | intro _)
  all_goals first | omega | grind | (split at * <;> omega)
theorem law13_pc (D0 : D) (h0 : Sh G 9 93 D0) : PC Try.prog 13 [D0] (dB true) [] := by
  obtain ⟨l, rfl, wl⟩ := sh93 (n := 6) h0
  exact law13 l wl
/-- loop.example/g03007/laws.FnExactHighestBids -/
theorem law14 (l : List TBid) (wl : wfLTBid l) (n : Int) (wn : inR .i64 n) : PCo Try.prog 14 [encLTBid l, dI n] (Tab.of []) (dB true) (Tab.of []) := by
  refine pco_of_run [] (E := ⟨[c39, c40, c43, c72, c74, c76, c77, c78, c79], []⟩) (m := false) (base := 0) (Env.ok_cons c39_ok (Env.ok_cons c40_ok (Env.ok_cons c43_ok (Env.ok_cons c72_ok (Env.ok_cons c74_ok (Env.ok_cons c76_ok (Env.ok_cons c77_ok (Env.ok_cons c78_ok (Env.ok_cons c79_ok Env.ok_nil))))))))) G_ok mix 400 6 Try.func14 (by kernel_rfl) rfl (by kernel_rfl) (by kernel_rfl) rfl ?_
  simp (config := {maxSteps := 3000000}) [Try.f14]
  have h1 : l.length ≤ maxLen := wl.1
  have hl : (mHigh l n).length ≤ l.length := by rw [mHigh, gen_len, mHighN]; split <;> omega
  refine ⟨h1, fun h => ?_⟩
  split at h
  · omega
  · repeat' (first | omega | refine And.intro ?_ ?_ | intro _)
theorem law14_pc (D0 : D) (h0 : Sh G 9 93 D0) (D1 : D) (h1 : Sh G 9 3 D1) : PC Try.prog 14 [D0, D1] (dB true) [] := by
  obtain ⟨l, rfl, wl⟩ := sh93 (n := 6) h0
  obtain ⟨n, rfl, wn⟩ := sh3 (n := 8) h1
  exact law14 l wl n wn

end Go.Proofs.Ytnkggfhgmdbfpaa
