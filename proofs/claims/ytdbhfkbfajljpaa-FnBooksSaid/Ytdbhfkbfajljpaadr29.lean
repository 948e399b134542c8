/- Contracts of the functions that the laws run. -/
import Derived.Test.YtdbhfkbfajljpaaEngB
import Derived.Test.YtdbhfkbfajljpaaEngB
import Derived.Test.Ytdbhfkbfajljpaadr4
import Derived.Test.Ytdbhfkbfajljpaadr0b
import Derived.Test.Ytdbhfkbfajljpaach29m
import Derived.Test.Ytdbhfkbfajljpaach20x
import Derived.Test.YtdbhfkbfajljpaaEngB
namespace Go.Proofs.Ytdbhfkbfajljpaa
open Go Go.Eng
set_option linter.unusedSimpArgs false
set_option linter.unusedVariables false
set_option maxRecDepth 10000
set_option maxHeartbeats 1000000
/-- loop.example/g03007/spec.l29Any -/
theorem c42_ex (c : TL1Cur) (hc : okCu c) (hp : True) : ∃ x_ : (List TEntry) × TL1Cur, (fun x_ : (List TEntry) × TL1Cur => okCu x_.2 ∧ (fun x : List TEntry => x.length ≤ 7) x_.1) x_ ∧ PCo Try.prog 42 [.ptr (0, 0) 0] (Tab.of [((0, 0), .box (encTL1Cur c))]) ((fun x_ : (List TEntry) × TL1Cur => (fun x : List TEntry => (.own (0, 1) 4 0 x.length : D)) x_.1) x_) (Tab.of ((fun x_ : (List TEntry) × TL1Cur => (((0, 0), .box (encTL1Cur x_.2)) :: (fun x : List TEntry => ([((0, 1), .arr false 4 yTEntry (ML encTEntry x))] : List (Nm × OO))) x_.1)) x_)) := by
  refine pco_ex_of_run (fun x_ : (List TEntry) × TL1Cur => okCu x_.2 ∧ (fun x : List TEntry => x.length ≤ 7) x_.1) (fun x_ : (List TEntry) × TL1Cur => (fun x : List TEntry => (.own (0, 1) 4 0 x.length : D)) x_.1) (fun x_ : (List TEntry) × TL1Cur => (((0, 0), .box (encTL1Cur x_.2)) :: (fun x : List TEntry => ([((0, 1), .arr false 4 yTEntry (ML encTEntry x))] : List (Nm × OO))) x_.1)) [] (E := ⟨[c32, c41f, c57, c58], [], []⟩) (m := false) (base := 0) (Env.ok_cons c32_ok (Env.ok_cons c41f_ok (Env.ok_cons c57_ok (Env.ok_cons c58_ok Env.ok_nil)))) G_ok mix 300 6 Try.func42 (by kernel_rfl) rfl (by kernel_rfl) (by kernel_rfl) (by kernel_rfl) rfl ?_
  simp [Try.f42, hc]
  have hb := below_bd c 8 (by omega)
  refine loop_inv (fun p : Nat × List TEntry × TL1Cur × Int => p.1 ≤ 7 ∧ p.2.1.length + p.1 ≤ 7 ∧ okCu p.2.2.1 ∧ 0 ≤ p.2.2.2 ∧ p.2.2.2 ≤ 1000 * (7 - p.1)) (fun p => [(0, .ptr (0, 0) 0), (3, .own (0, 1) 4 0 p.2.1.length), (4, dI p.2.2.2), (5, dI p.1)]) (fun p => [((0, 0), .box (encTL1Cur p.2.2.1)), ((0, 1), .arr false 4 yTEntry (ML encTEntry p.2.1))]) 2 (fun p => p.1) ((v32 c 8).toNat, [], n32 c 8, 0) 400 (by simp) (by simp [hc]; omega) (by simp; omega) ?_
  rintro ⟨p, l, d, t⟩ ⟨hp, hl, hk, ht, ht2⟩
  simp only at hp hl hk ht ht2
  have hm := fun x => mAddEntry_len l x
  have b4 := below_bd d 4 (by omega)
  have b5 := below_bd (n32 d 4) 4 (by omega)
  have b500 := below_bd (n32 (n32 d 4) 4) 500 (by omega)
  have b9 := below_bd (n32 (n32 (n32 d 4) 4) 500) 9 (by omega)
  simp [hk]
  refine ⟨fun h => ?_, fun h => ?_⟩
  · have hm2 : ∀ x, (mAddEntry l x).length + (p - 1) ≤ 7 := fun x => by have := hm x; omega
    repeat' (with_reducible first | apply And.intro | intro _)
    all_goals try (first | omega | assumption | (simp; done) | (simp only [below_eq, Int.reduceLT]; omega))
    refine Again.mk (p - 1, ?_, ?_, t + v32 (n32 (n32 (n32 d 4) 4) 500) 9) ?hinv ?hle ?hmu
    case hle =>
      simp
      repeat' (with_reducible first | apply and_rev | intro _)
      all_goals try dsimp only
      all_goals try with_reducible rfl
      all_goals try rfl
      all_goals (first | done | omega | (simp [*]; done) | (simp; omega) | trace_state)
    case hinv => (simp [*]; try (first | done | omega | (repeat' (with_reducible apply And.intro)) <;> (first | omega | assumption | trace_state)))
    case hmu => (simp; try omega)
  · have hbi : 0 < l.length → 0 ≤ v32 d l.length ∧ v32 d l.length < l.length ∧ (v32 d l.length).toNat < l.length := fun h => by have := below_bd d l.length (by omega); omega
    repeat' (with_reducible first | apply and_rev | apply Exists.intro | intro _)
    all_goals try dsimp only
    all_goals try with_reducible rfl
    all_goals try rfl
    all_goals (first | done | omega | assumption | exact List.length_pos_iff.2 (by assumption) | (simp [*]; done) | (simp [*]; omega) | (simp [*, below_eq]; done) | (simp [*, below_eq]; omega) | (simp only [below_eq, Int.reduceLT]; omega) | (have q := hbi (by assumption); omega) | trace_state)
open Classical in
noncomputable def q42 (c : TL1Cur) : (List TEntry) × TL1Cur := if h : okCu c ∧ True then Classical.choose (c42_ex c  h.1 h.2) else (default, ⟨[], 0, 0⟩)
theorem q42_sp (c : TL1Cur) (hc : okCu c) (hp : True) : (fun x_ : (List TEntry) × TL1Cur => okCu x_.2 ∧ (fun x : List TEntry => x.length ≤ 7) x_.1) (q42 c ) ∧ PCo Try.prog 42 [.ptr (0, 0) 0] (Tab.of [((0, 0), .box (encTL1Cur c))]) ((fun x_ : (List TEntry) × TL1Cur => (fun x : List TEntry => (.own (0, 1) 4 0 x.length : D)) x_.1) (q42 c )) (Tab.of ((fun x_ : (List TEntry) × TL1Cur => (((0, 0), .box (encTL1Cur x_.2)) :: (fun x : List TEntry => ([((0, 1), .arr false 4 yTEntry (ML encTEntry x))] : List (Nm × OO))) x_.1)) (q42 c ))) := by
  have e : q42 c  = Classical.choose (c42_ex c  hc hp) := by rw [q42, dif_pos ⟨hc, hp⟩]
  rw [e]
  exact Classical.choose_spec (c42_ex c  hc hp)
noncomputable def v42 (c : TL1Cur) : List TEntry := (q42 c ).1
noncomputable def n42 (c : TL1Cur) : TL1Cur := (q42 c ).2
open Classical in
@[simp] theorem n42_ok (c : TL1Cur) : okCu (n42 c ) := by
  by_cases h : okCu c ∧ True
  · exact (q42_sp c  h.1 h.2).1.1
  · rw [n42, q42, dif_neg h]; exact ⟨by simp, by simp, by simp⟩
theorem v42_ok (c : TL1Cur) (hc : okCu c) (hp : True) : (fun x : List TEntry => x.length ≤ 7) (v42 c ) := (q42_sp c  hc hp).1.2
noncomputable def c42 : Con := mkCon 42 true (α := TL1Cur) (fun x => (fun (c : TL1Cur) => ([.ptr (0, 0) 0] : List D)) x) (fun x => (fun (c : TL1Cur) => ([((0, 0), .box (encTL1Cur c))] : List (Nm × OO))) x) (fun x => (fun (c : TL1Cur) => okCu c ∧ True) x) (fun x => (fun (c : TL1Cur) => (fun x : List TEntry => (.own (0, 1) 4 0 x.length : D)) (v42 c )) x) (fun x => (fun (c : TL1Cur) => (((0, 0), .box (encTL1Cur (n42 c ))) :: (fun x : List TEntry => ([((0, 1), .arr false 4 yTEntry (ML encTEntry x))] : List (Nm × OO))) (v42 c ))) x)
@[simp] theorem c42_f : c42.f = 42 := rfl
@[simp] theorem c42_own : c42.own = true := rfl
theorem c42_inj : ∀ u_ v_ : TL1Cur, ((fun x => (fun (c : TL1Cur) => ([.ptr (0, 0) 0] : List D)) x) u_).map nz = ((fun x => (fun (c : TL1Cur) => ([.ptr (0, 0) 0] : List D)) x) v_).map nz → (fun x => (fun (c : TL1Cur) => ([((0, 0), .box (encTL1Cur c))] : List (Nm × OO))) x) u_ = (fun x => (fun (c : TL1Cur) => ([((0, 0), .box (encTL1Cur c))] : List (Nm × OO))) x) v_ → u_ = v_ := by
  intro u_ v_ h h2_
  obtain ⟨c_b_, c_i_, c_h_⟩ := u_
  obtain ⟨c_b_', c_i_', c_h_'⟩ := v_
  simp [nz_lit, nz1_lit, nz_agg, nz_sl, nz1_sl, nz_sx, nz_el, nz1_el, nz_own, nz1_own, nz_ptr, nz_fn, nz_iface] at h h2_
  first | (simp [h, h2_]; done) | (obtain ⟨h3_, h4_⟩ := List.append_inj h2_ h.1; simp_all; done) | simp_all | grind
@[simp] theorem c42_fn (c : TL1Cur) : c42.fn ([.ptr (0, 0) 0]) ([((0, 0), .box (.agg [.sl false 1 (.lit (.int .u8 0)) (ML dU c.b_), .lit (.int .i64 c.i_), .lit (.int .i64 c.h_)]))]) = some (okCu c ∧ True, (fun x : List TEntry => (.own (0, 1) 4 0 x.length : D)) (v42 c ), (((0, 0), .box (encTL1Cur (n42 c ))) :: (fun x : List TEntry => ([((0, 1), .arr false 4 yTEntry (ML encTEntry x))] : List (Nm × OO))) (v42 c ))) :=
  mkCon_fn c42_inj (c : TL1Cur) rfl rfl
theorem c42_ok : c42.ok Try.prog := mkCon_ok fun c hpre => (q42_sp c  hpre.1 hpre.2).2
/-- loop.example/g03007/spec.DrawAddEntry -/
theorem c28_ex (l : List Int) (hp : l.length ≤ 2097152) : ∃ x_ : List TEntry × TEntry, (fun x : List TEntry × TEntry => x.1.length ≤ 7) x_ ∧ PCo Try.prog 28 [encLU l] (Tab.of []) ((fun x : List TEntry × TEntry => (.tup [.sl false 4 yTEntry (ML encTEntry x.1), encTEntry x.2] : D)) x_) (Tab.of ((fun x : List TEntry × TEntry => ([] : List (Nm × OO))) x_)) := by
  refine pco_ex_of_run (fun x : List TEntry × TEntry => x.1.length ≤ 7) (fun x : List TEntry × TEntry => (.tup [.sl false 4 yTEntry (ML encTEntry x.1), encTEntry x.2] : D)) (fun x : List TEntry × TEntry => ([] : List (Nm × OO))) [] (E := ⟨[c30, c32, c41f, c42], [], []⟩) (m := false) (base := 0) (Env.ok_cons c30_ok (Env.ok_cons c32_ok (Env.ok_cons c41f_ok (Env.ok_cons c42_ok Env.ok_nil)))) G_ok mix 300 6 Try.func28 (by kernel_rfl) rfl (by kernel_rfl) (by kernel_rfl) (by kernel_rfl) rfl ?_
  simp [Try.f28, hp]
  have hk := v30_ok l hp
  have hl := v42_ok _ hk trivial
  simp [hk]
  repeat' (with_reducible first | apply and_rev | apply Exists.intro (⟨?_, ?_, ?_, ?_⟩ : TEntry) | apply Exists.intro | intro _)
  all_goals try dsimp only
  all_goals try with_reducible rfl
  all_goals try rfl
  all_goals (first | done | omega | assumption | exact List.length_pos_iff.2 (by assumption) | (simp [*]; done) | (simp [*]; omega) | (simp [*, below_eq]; done) | (simp [*, below_eq]; omega) | (simp only [below_eq, Int.reduceLT]; omega) | trace_state)
open Classical in
noncomputable def q28 (l : List Int) : List TEntry × TEntry := if h : l.length ≤ 2097152 then Classical.choose (c28_ex l h) else default
theorem q28_sp (l : List Int) (hp : l.length ≤ 2097152) : (fun x : List TEntry × TEntry => x.1.length ≤ 7) (q28 l) ∧ PCo Try.prog 28 [encLU l] (Tab.of []) ((fun x : List TEntry × TEntry => (.tup [.sl false 4 yTEntry (ML encTEntry x.1), encTEntry x.2] : D)) (q28 l)) (Tab.of ((fun x : List TEntry × TEntry => ([] : List (Nm × OO))) (q28 l))) := by
  have e : q28 l = Classical.choose (c28_ex l hp) := by rw [q28, dif_pos hp]
  rw [e]
  exact Classical.choose_spec (c28_ex l hp)
noncomputable def v28 (l : List Int) : List TEntry × TEntry := q28 l
theorem v28_ok (l : List Int) (hp : l.length ≤ 2097152) : (fun x : List TEntry × TEntry => x.1.length ≤ 7) (v28 l) := (q28_sp l hp).1
noncomputable def c28 : Con := mkCon 28 false (α := (List Int)) (fun x => (fun (l : List Int) => ([encLU l] : List D)) x) (fun x => (fun (l : List Int) => ([] : List (Nm × OO))) x) (fun x => (fun (l : List Int) => l.length ≤ 2097152) x) (fun x => (fun (l : List Int) => (fun x : List TEntry × TEntry => (.tup [.sl false 4 yTEntry (ML encTEntry x.1), encTEntry x.2] : D)) (v28 l)) x) (fun x => (fun (l : List Int) => (fun x : List TEntry × TEntry => ([] : List (Nm × OO))) (v28 l)) x)
@[simp] theorem c28_f : c28.f = 28 := rfl
@[simp] theorem c28_own : c28.own = false := rfl
theorem c28_inj : ∀ u_ v_ : (List Int), ((fun x => (fun (l : List Int) => ([encLU l] : List D)) x) u_).map nz = ((fun x => (fun (l : List Int) => ([encLU l] : List D)) x) v_).map nz → (fun x => (fun (l : List Int) => ([] : List (Nm × OO))) x) u_ = (fun x => (fun (l : List Int) => ([] : List (Nm × OO))) x) v_ → u_ = v_ := by
  intro u_ v_ h h2_
  obtain l := u_
  obtain l' := v_
  simp [nz_lit, nz1_lit, nz_agg, nz_sl, nz1_sl, nz_sx, nz_el, nz1_el, nz_own, nz1_own, nz_ptr, nz_fn, nz_iface] at h h2_
  first | (simp [h, h2_]; done) | (obtain ⟨h3_, h4_⟩ := List.append_inj h2_ h.1; simp_all; done) | simp_all | grind
@[simp] theorem c28_fn (l : List Int) : c28.fn ([(.sl false 1 (.lit (.int .u8 0)) (ML dU l))]) ([]) = some (l.length ≤ 2097152, (fun x : List TEntry × TEntry => (.tup [.sl false 4 yTEntry (ML encTEntry x.1), encTEntry x.2] : D)) (v28 l), (fun x : List TEntry × TEntry => ([] : List (Nm × OO))) (v28 l)) :=
  mkCon_fn c28_inj (l : (List Int)) rfl rfl
theorem c28_ok : c28.ok Try.prog := mkCon_ok fun l hpre => (q28_sp l hpre).2
/-- loop.example/g03007/spec.DrawPayShares -/
theorem c20_ex (l : List Int) (hp : l.length ≤ 2097152) : ∃ x_ : List TEntry × Int × List TShare × Int, (fun x : List TEntry × Int × List TShare × Int => x.1.length ≤ 7 ∧ x.2.2.1.length ≤ 2) x_ ∧ PCo Try.prog 20 [encLU l] (Tab.of []) ((fun x : List TEntry × Int × List TShare × Int => (.tup [.sl false 4 yTEntry (ML encTEntry x.1), dI x.2.1, .sl false 2 yTShare (ML encTShare x.2.2.1), dI x.2.2.2] : D)) x_) (Tab.of ((fun x : List TEntry × Int × List TShare × Int => ([] : List (Nm × OO))) x_)) := by
  refine pco_ex_of_run (fun x : List TEntry × Int × List TShare × Int => x.1.length ≤ 7 ∧ x.2.2.1.length ≤ 2) (fun x : List TEntry × Int × List TShare × Int => (.tup [.sl false 4 yTEntry (ML encTEntry x.1), dI x.2.1, .sl false 2 yTShare (ML encTShare x.2.2.1), dI x.2.2.2] : D)) (fun x : List TEntry × Int × List TShare × Int => ([] : List (Nm × OO))) [] (E := ⟨[c30, c32, c41f, c42, c43], [], []⟩) (m := false) (base := 0) (Env.ok_cons c30_ok (Env.ok_cons c32_ok (Env.ok_cons c41f_ok (Env.ok_cons c42_ok (Env.ok_cons c43_ok Env.ok_nil))))) G_ok mix 300 6 Try.func20 (by kernel_rfl) rfl (by kernel_rfl) (by kernel_rfl) (by kernel_rfl) rfl ?_
  simp [Try.f20, hp]
  have hk := v30_ok l hp
  have hl := v42_ok _ hk trivial
  have hms := mSales_len
  simp [hk]
  repeat' (with_reducible first | apply and_rev | apply Exists.intro | intro _)
  all_goals try dsimp only
  all_goals try with_reducible rfl
  all_goals try rfl
  all_goals (first | done | omega | assumption | exact List.length_pos_iff.2 (by assumption) | (simp [*]; done) | (simp [*]; omega) | (simp [*, below_eq]; done) | (simp [*, below_eq]; omega) | (simp only [below_eq, Int.reduceLT]; omega) | trace_state)
open Classical in
noncomputable def q20 (l : List Int) : List TEntry × Int × List TShare × Int := if h : l.length ≤ 2097152 then Classical.choose (c20_ex l h) else default
theorem q20_sp (l : List Int) (hp : l.length ≤ 2097152) : (fun x : List TEntry × Int × List TShare × Int => x.1.length ≤ 7 ∧ x.2.2.1.length ≤ 2) (q20 l) ∧ PCo Try.prog 20 [encLU l] (Tab.of []) ((fun x : List TEntry × Int × List TShare × Int => (.tup [.sl false 4 yTEntry (ML encTEntry x.1), dI x.2.1, .sl false 2 yTShare (ML encTShare x.2.2.1), dI x.2.2.2] : D)) (q20 l)) (Tab.of ((fun x : List TEntry × Int × List TShare × Int => ([] : List (Nm × OO))) (q20 l))) := by
  have e : q20 l = Classical.choose (c20_ex l hp) := by rw [q20, dif_pos hp]
  rw [e]
  exact Classical.choose_spec (c20_ex l hp)
noncomputable def v20 (l : List Int) : List TEntry × Int × List TShare × Int := q20 l
theorem v20_ok (l : List Int) (hp : l.length ≤ 2097152) : (fun x : List TEntry × Int × List TShare × Int => x.1.length ≤ 7 ∧ x.2.2.1.length ≤ 2) (v20 l) := (q20_sp l hp).1
noncomputable def c20 : Con := mkCon 20 false (α := (List Int)) (fun x => (fun (l : List Int) => ([encLU l] : List D)) x) (fun x => (fun (l : List Int) => ([] : List (Nm × OO))) x) (fun x => (fun (l : List Int) => l.length ≤ 2097152) x) (fun x => (fun (l : List Int) => (fun x : List TEntry × Int × List TShare × Int => (.tup [.sl false 4 yTEntry (ML encTEntry x.1), dI x.2.1, .sl false 2 yTShare (ML encTShare x.2.2.1), dI x.2.2.2] : D)) (v20 l)) x) (fun x => (fun (l : List Int) => (fun x : List TEntry × Int × List TShare × Int => ([] : List (Nm × OO))) (v20 l)) x)
@[simp] theorem c20_f : c20.f = 20 := rfl
@[simp] theorem c20_own : c20.own = false := rfl
theorem c20_inj : ∀ u_ v_ : (List Int), ((fun x => (fun (l : List Int) => ([encLU l] : List D)) x) u_).map nz = ((fun x => (fun (l : List Int) => ([encLU l] : List D)) x) v_).map nz → (fun x => (fun (l : List Int) => ([] : List (Nm × OO))) x) u_ = (fun x => (fun (l : List Int) => ([] : List (Nm × OO))) x) v_ → u_ = v_ := by
  intro u_ v_ h h2_
  obtain l := u_
  obtain l' := v_
  simp [nz_lit, nz1_lit, nz_agg, nz_sl, nz1_sl, nz_sx, nz_el, nz1_el, nz_own, nz1_own, nz_ptr, nz_fn, nz_iface] at h h2_
  first | (simp [h, h2_]; done) | (obtain ⟨h3_, h4_⟩ := List.append_inj h2_ h.1; simp_all; done) | simp_all | grind
@[simp] theorem c20_fn (l : List Int) : c20.fn ([(.sl false 1 (.lit (.int .u8 0)) (ML dU l))]) ([]) = some (l.length ≤ 2097152, (fun x : List TEntry × Int × List TShare × Int => (.tup [.sl false 4 yTEntry (ML encTEntry x.1), dI x.2.1, .sl false 2 yTShare (ML encTShare x.2.2.1), dI x.2.2.2] : D)) (v20 l), (fun x : List TEntry × Int × List TShare × Int => ([] : List (Nm × OO))) (v20 l)) :=
  mkCon_fn c20_inj (l : (List Int)) rfl rfl
theorem c20_ok : c20.ok Try.prog := mkCon_ok fun l hpre => (q20_sp l hpre).2

end Go.Proofs.Ytdbhfkbfajljpaa
