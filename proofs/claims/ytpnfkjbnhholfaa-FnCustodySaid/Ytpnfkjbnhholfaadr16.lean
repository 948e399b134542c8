/- Contracts of the functions that the laws run. -/
import Derived.Test.YtpnfkjbnhholfaaEngB
import Derived.Test.YtpnfkjbnhholfaaEngB
import Derived.Test.Ytpnfkjbnhholfaadr4
import Derived.Test.Ytpnfkjbnhholfaach16k
import Derived.Test.YtpnfkjbnhholfaaEngB
namespace Go.Proofs.Ytpnfkjbnhholfaa
open Go Go.Eng
set_option linter.unusedSimpArgs false
set_option linter.unusedVariables false
set_option maxRecDepth 10000
set_option maxHeartbeats 1000000
theorem mHandSeal_bd (b : Int) (x : THand) : 0 ≤ mHandSeal b x ∧ mHandSeal b x < 4294967296 := by
  have := mHash_bd [b, x.Thing, x.Holder, x.Who, x.At]
  simp only [mHandSeal]; omega
def okHs (l : List THand) : Prop := ∀ x ∈ l, 0 ≤ x.Thing ∧ x.Thing ≤ 1000 ∧ 0 ≤ x.Seal ∧ x.Seal ≤ 4294967296
theorem okHs_add {l : List THand} {x : THand} (h : okHs l) (h1 : 0 ≤ x.Thing) (h2 : x.Thing ≤ 1000) : okHs (mAddHand l x) := by
  simp only [mAddHand]; split
  · intro y hy
    rcases List.mem_append.1 hy with hy | hy
    · exact h y hy
    · simp at hy; subst hy
      have := mHandSeal_bd (lastH l).Seal x
      simp only [mAddH]; omega
  · exact h
/-- loop.example/g03007/spec.l16One -/
theorem c123_ex (c : TL1Cur) (t : Int) (hc : okCu c) (hp : True) : ∃ x_ : (THand) × TL1Cur, (fun x_ : (THand) × TL1Cur => okCu x_.2 ∧ (fun x : THand => 0 ≤ x.Thing ∧ x.Thing ≤ 8) x_.1) x_ ∧ PCo Try.prog 123 [.ptr (0, 0) 0, dI t] (Tab.of [((0, 0), .box (encTL1Cur c))]) ((fun x_ : (THand) × TL1Cur => (fun x : THand => (encTHand x : D)) x_.1) x_) (Tab.of ((fun x_ : (THand) × TL1Cur => (((0, 0), .box (encTL1Cur x_.2)) :: (fun x : THand => ([] : List (Nm × OO))) x_.1)) x_)) := by
  refine pco_ex_of_run (fun x_ : (THand) × TL1Cur => okCu x_.2 ∧ (fun x : THand => 0 ≤ x.Thing ∧ x.Thing ≤ 8) x_.1) (fun x_ : (THand) × TL1Cur => (fun x : THand => (encTHand x : D)) x_.1) (fun x_ : (THand) × TL1Cur => (((0, 0), .box (encTL1Cur x_.2)) :: (fun x : THand => ([] : List (Nm × OO))) x_.1)) [] (E := ⟨[c72, c140], [], []⟩) (m := false) (base := 1000000) (Env.ok_cons c72_ok (Env.ok_cons c140_ok Env.ok_nil)) G_ok mix 300 6 Try.func123 (by kernel_rfl) rfl (by kernel_rfl) (by kernel_rfl) (by kernel_rfl) rfl ?_
  simp [Try.f123, hc]
  repeat' (with_reducible first | apply and_rev | apply Exists.intro (⟨?_, ?_, ?_, ?_, ?_⟩ : THand) | apply Exists.intro | intro _)
  all_goals try dsimp only
  all_goals try with_reducible rfl
  all_goals try rfl
  all_goals (first | done | omega | assumption | exact List.length_pos_iff.2 (by assumption) | (simp [*]; done) | (simp [*]; omega) | (simp [*, below_eq]; done) | (simp [*, below_eq]; omega) | (simp only [below_eq, Int.reduceLT]; omega) | trace_state)
open Classical in
noncomputable def q123 (c : TL1Cur) (t : Int) : (THand) × TL1Cur := if h : okCu c ∧ True then Classical.choose (c123_ex c t h.1 h.2) else (default, ⟨[], 0, 0⟩)
theorem q123_sp (c : TL1Cur) (t : Int) (hc : okCu c) (hp : True) : (fun x_ : (THand) × TL1Cur => okCu x_.2 ∧ (fun x : THand => 0 ≤ x.Thing ∧ x.Thing ≤ 8) x_.1) (q123 c t) ∧ PCo Try.prog 123 [.ptr (0, 0) 0, dI t] (Tab.of [((0, 0), .box (encTL1Cur c))]) ((fun x_ : (THand) × TL1Cur => (fun x : THand => (encTHand x : D)) x_.1) (q123 c t)) (Tab.of ((fun x_ : (THand) × TL1Cur => (((0, 0), .box (encTL1Cur x_.2)) :: (fun x : THand => ([] : List (Nm × OO))) x_.1)) (q123 c t))) := by
  have e : q123 c t = Classical.choose (c123_ex c t hc hp) := by rw [q123, dif_pos ⟨hc, hp⟩]
  rw [e]
  exact Classical.choose_spec (c123_ex c t hc hp)
noncomputable def v123 (c : TL1Cur) (t : Int) : THand := (q123 c t).1
noncomputable def n123 (c : TL1Cur) (t : Int) : TL1Cur := (q123 c t).2
open Classical in
@[simp] theorem n123_ok (c : TL1Cur) (t : Int) : okCu (n123 c t) := by
  by_cases h : okCu c ∧ True
  · exact (q123_sp c t h.1 h.2).1.1
  · rw [n123, q123, dif_neg h]; exact ⟨by simp, by simp, by simp⟩
theorem v123_ok (c : TL1Cur) (t : Int) (hc : okCu c) (hp : True) : (fun x : THand => 0 ≤ x.Thing ∧ x.Thing ≤ 8) (v123 c t) := (q123_sp c t hc hp).1.2
noncomputable def c123 : Con := mkCon 123 true (α := TL1Cur × Int) (fun x => (fun (c : TL1Cur) (t : Int) => ([.ptr (0, 0) 0, dI t] : List D)) x.1 x.2) (fun x => (fun (c : TL1Cur) (t : Int) => ([((0, 0), .box (encTL1Cur c))] : List (Nm × OO))) x.1 x.2) (fun x => (fun (c : TL1Cur) (t : Int) => okCu c ∧ True) x.1 x.2) (fun x => (fun (c : TL1Cur) (t : Int) => (fun x : THand => (encTHand x : D)) (v123 c t)) x.1 x.2) (fun x => (fun (c : TL1Cur) (t : Int) => (((0, 0), .box (encTL1Cur (n123 c t))) :: (fun x : THand => ([] : List (Nm × OO))) (v123 c t))) x.1 x.2)
@[simp] theorem c123_f : c123.f = 123 := rfl
@[simp] theorem c123_own : c123.own = true := rfl
theorem c123_inj : ∀ u_ v_ : TL1Cur × Int, ((fun x => (fun (c : TL1Cur) (t : Int) => ([.ptr (0, 0) 0, dI t] : List D)) x.1 x.2) u_).map nz = ((fun x => (fun (c : TL1Cur) (t : Int) => ([.ptr (0, 0) 0, dI t] : List D)) x.1 x.2) v_).map nz → (fun x => (fun (c : TL1Cur) (t : Int) => ([((0, 0), .box (encTL1Cur c))] : List (Nm × OO))) x.1 x.2) u_ = (fun x => (fun (c : TL1Cur) (t : Int) => ([((0, 0), .box (encTL1Cur c))] : List (Nm × OO))) x.1 x.2) v_ → u_ = v_ := by
  intro u_ v_ h h2_
  obtain ⟨⟨c_b_, c_i_, c_h_⟩, t⟩ := u_
  obtain ⟨⟨c_b_', c_i_', c_h_'⟩, t'⟩ := v_
  simp [nz_lit, nz1_lit, nz_agg, nz_sl, nz1_sl, nz_sx, nz_el, nz1_el, nz_own, nz1_own, nz_ptr, nz_fn, nz_iface] at h h2_
  first | (simp [h, h2_]; done) | (obtain ⟨h3_, h4_⟩ := List.append_inj h2_ h.1; simp_all; done) | simp_all | grind
@[simp] theorem c123_fn (c : TL1Cur) (t : Int) : c123.fn ([.ptr (0, 0) 0, .lit (.int .i64 t)]) ([((0, 0), .box (.agg [.sl false 1 (.lit (.int .u8 0)) (ML dU c.b_), .lit (.int .i64 c.i_), .lit (.int .i64 c.h_)]))]) = some (okCu c ∧ True, (fun x : THand => (encTHand x : D)) (v123 c t), (((0, 0), .box (encTL1Cur (n123 c t))) :: (fun x : THand => ([] : List (Nm × OO))) (v123 c t))) :=
  mkCon_fn c123_inj ((c, t) : TL1Cur × Int) rfl rfl
theorem c123_ok : c123.ok Try.prog := mkCon_ok fun ⟨c, t⟩ hpre => (q123_sp c t hpre.1 hpre.2).2
/-- loop.example/g03007/spec.l16Draw -/
theorem c176_ex (c : TL1Cur) (hc : okCu c) (hp : True) : ∃ x_ : (List THand) × TL1Cur, (fun x_ : (List THand) × TL1Cur => okCu x_.2 ∧ (fun x : List THand => x.length ≤ 11 ∧ okHs x) x_.1) x_ ∧ PCo Try.prog 176 [.ptr (0, 0) 0] (Tab.of [((0, 0), .box (encTL1Cur c))]) ((fun x_ : (List THand) × TL1Cur => (fun x : List THand => (.own (0, 1) 5 0 x.length : D)) x_.1) x_) (Tab.of ((fun x_ : (List THand) × TL1Cur => (((0, 0), .box (encTL1Cur x_.2)) :: (fun x : List THand => ([((0, 1), .arr false 5 yTHand (ML encTHand x))] : List (Nm × OO))) x_.1)) x_)) := by
  refine pco_ex_of_run (fun x_ : (List THand) × TL1Cur => okCu x_.2 ∧ (fun x : List THand => x.length ≤ 11 ∧ okHs x) x_.1) (fun x_ : (List THand) × TL1Cur => (fun x : List THand => (.own (0, 1) 5 0 x.length : D)) x_.1) (fun x_ : (List THand) × TL1Cur => (((0, 0), .box (encTL1Cur x_.2)) :: (fun x : List THand => ([((0, 1), .arr false 5 yTHand (ML encTHand x))] : List (Nm × OO))) x_.1)) [] (E := ⟨[c72, c123, c207], [], []⟩) (m := false) (base := 0) (Env.ok_cons c72_ok (Env.ok_cons c123_ok (Env.ok_cons c207_ok Env.ok_nil))) G_ok mix 300 6 Try.func176 (by kernel_rfl) rfl (by kernel_rfl) (by kernel_rfl) (by kernel_rfl) rfl ?_
  simp [Try.f176, hc]
  have hb := below_bd c 12 (by omega)
  refine loop_inv (fun p : Nat × List THand × TL1Cur × Int => p.1 ≤ 11 ∧ p.2.1.length + p.1 ≤ 11 ∧ okCu p.2.2.1 ∧ okHs p.2.1 ∧ 0 ≤ p.2.2.2 ∧ p.2.2.2 ≤ 1000 * (11 - p.1)) (fun p => [(0, .ptr (0, 0) 0), (3, .own (0, 1) 5 0 p.2.1.length), (4, dI p.2.2.2), (5, dI p.1)]) (fun p => [((0, 0), .box (encTL1Cur p.2.2.1)), ((0, 1), .arr false 5 yTHand (ML encTHand p.2.1))]) 2 (fun p => p.1) ((v72 c 12).toNat, [], n72 c 12, 0) 400 (by simp) (by simp [okHs]; omega) (by simp; omega) ?_
  rintro ⟨p, l, d, t⟩ ⟨hp, hl, hk, hh, ht, ht2⟩
  simp only at hp hl hk hh ht ht2
  have hb := below_bd d 9 (by omega)
  simp [hk]
  have b8 := v123_ok d t hk trivial
  have b9 := below_bd (n123 d t) 9 (by omega)
  have hm := mAddHand_len l (v123 d t)
  have hm2 := okHs_add (x := v123 d t) hh b8.1 (by omega)
  refine ⟨fun h => ?_, fun h => ?_⟩
  · skip
    repeat' (with_reducible first | apply And.intro | intro _)
    all_goals try (first | omega | assumption | (simp; done) | (simp only [below_eq, Int.reduceLT]; omega))
    refine Again.mk (p - 1, ?_, ?_, t + v72 (n123 d t) 9) ?hinv ?hle ?hmu
    case hle =>
      simp
      repeat' (with_reducible first | apply and_rev | intro _)
      all_goals try dsimp only
      all_goals try with_reducible rfl
      all_goals try rfl
      all_goals (first | done | omega | (simp [*]; done) | (simp; omega) | trace_state)
    case hinv => (simp [*]; try (first | done | omega | (repeat' (with_reducible apply And.intro)) <;> (first | omega | assumption | trace_state)))
    case hmu => (simp; try omega)
  · skip
    repeat' (with_reducible first | apply and_rev | apply Exists.intro | intro _)
    all_goals try dsimp only
    all_goals try with_reducible rfl
    all_goals try rfl
    all_goals (first | done | omega | assumption | exact List.length_pos_iff.2 (by assumption) | (simp [*]; done) | (simp [*]; omega) | (simp [*, below_eq]; done) | (simp [*, below_eq]; omega) | (simp only [below_eq, Int.reduceLT]; omega) | trace_state)
open Classical in
noncomputable def q176 (c : TL1Cur) : (List THand) × TL1Cur := if h : okCu c ∧ True then Classical.choose (c176_ex c  h.1 h.2) else (default, ⟨[], 0, 0⟩)
theorem q176_sp (c : TL1Cur) (hc : okCu c) (hp : True) : (fun x_ : (List THand) × TL1Cur => okCu x_.2 ∧ (fun x : List THand => x.length ≤ 11 ∧ okHs x) x_.1) (q176 c ) ∧ PCo Try.prog 176 [.ptr (0, 0) 0] (Tab.of [((0, 0), .box (encTL1Cur c))]) ((fun x_ : (List THand) × TL1Cur => (fun x : List THand => (.own (0, 1) 5 0 x.length : D)) x_.1) (q176 c )) (Tab.of ((fun x_ : (List THand) × TL1Cur => (((0, 0), .box (encTL1Cur x_.2)) :: (fun x : List THand => ([((0, 1), .arr false 5 yTHand (ML encTHand x))] : List (Nm × OO))) x_.1)) (q176 c ))) := by
  have e : q176 c  = Classical.choose (c176_ex c  hc hp) := by rw [q176, dif_pos ⟨hc, hp⟩]
  rw [e]
  exact Classical.choose_spec (c176_ex c  hc hp)
noncomputable def v176 (c : TL1Cur) : List THand := (q176 c ).1
noncomputable def n176 (c : TL1Cur) : TL1Cur := (q176 c ).2
open Classical in
@[simp] theorem n176_ok (c : TL1Cur) : okCu (n176 c ) := by
  by_cases h : okCu c ∧ True
  · exact (q176_sp c  h.1 h.2).1.1
  · rw [n176, q176, dif_neg h]; exact ⟨by simp, by simp, by simp⟩
theorem v176_ok (c : TL1Cur) (hc : okCu c) (hp : True) : (fun x : List THand => x.length ≤ 11 ∧ okHs x) (v176 c ) := (q176_sp c  hc hp).1.2
noncomputable def c176 : Con := mkCon 176 true (α := TL1Cur) (fun x => (fun (c : TL1Cur) => ([.ptr (0, 0) 0] : List D)) x) (fun x => (fun (c : TL1Cur) => ([((0, 0), .box (encTL1Cur c))] : List (Nm × OO))) x) (fun x => (fun (c : TL1Cur) => okCu c ∧ True) x) (fun x => (fun (c : TL1Cur) => (fun x : List THand => (.own (0, 1) 5 0 x.length : D)) (v176 c )) x) (fun x => (fun (c : TL1Cur) => (((0, 0), .box (encTL1Cur (n176 c ))) :: (fun x : List THand => ([((0, 1), .arr false 5 yTHand (ML encTHand x))] : List (Nm × OO))) (v176 c ))) x)
@[simp] theorem c176_f : c176.f = 176 := rfl
@[simp] theorem c176_own : c176.own = true := rfl
theorem c176_inj : ∀ u_ v_ : TL1Cur, ((fun x => (fun (c : TL1Cur) => ([.ptr (0, 0) 0] : List D)) x) u_).map nz = ((fun x => (fun (c : TL1Cur) => ([.ptr (0, 0) 0] : List D)) x) v_).map nz → (fun x => (fun (c : TL1Cur) => ([((0, 0), .box (encTL1Cur c))] : List (Nm × OO))) x) u_ = (fun x => (fun (c : TL1Cur) => ([((0, 0), .box (encTL1Cur c))] : List (Nm × OO))) x) v_ → u_ = v_ := by
  intro u_ v_ h h2_
  obtain ⟨c_b_, c_i_, c_h_⟩ := u_
  obtain ⟨c_b_', c_i_', c_h_'⟩ := v_
  simp [nz_lit, nz1_lit, nz_agg, nz_sl, nz1_sl, nz_sx, nz_el, nz1_el, nz_own, nz1_own, nz_ptr, nz_fn, nz_iface] at h h2_
  first | (simp [h, h2_]; done) | (obtain ⟨h3_, h4_⟩ := List.append_inj h2_ h.1; simp_all; done) | simp_all | grind
@[simp] theorem c176_fn (c : TL1Cur) : c176.fn ([.ptr (0, 0) 0]) ([((0, 0), .box (.agg [.sl false 1 (.lit (.int .u8 0)) (ML dU c.b_), .lit (.int .i64 c.i_), .lit (.int .i64 c.h_)]))]) = some (okCu c ∧ True, (fun x : List THand => (.own (0, 1) 5 0 x.length : D)) (v176 c ), (((0, 0), .box (encTL1Cur (n176 c ))) :: (fun x : List THand => ([((0, 1), .arr false 5 yTHand (ML encTHand x))] : List (Nm × OO))) (v176 c ))) :=
  mkCon_fn c176_inj (c : TL1Cur) rfl rfl
theorem c176_ok : c176.ok Try.prog := mkCon_ok fun c hpre => (q176_sp c  hpre.1 hpre.2).2
/-- loop.example/g03007/spec.l16Any -/
theorem c122_ex (c : TL1Cur) (hc : okCu c) (hp : True) : ∃ x_ : (List THand) × TL1Cur, (fun x_ : (List THand) × TL1Cur => okCu x_.2 ∧ (fun x : List THand => x.length ≤ 11) x_.1) x_ ∧ PCo Try.prog 122 [.ptr (0, 0) 0] (Tab.of [((0, 0), .box (encTL1Cur c))]) ((fun x_ : (List THand) × TL1Cur => (fun x : List THand => (.own (0, 1) 5 0 x.length : D)) x_.1) x_) (Tab.of ((fun x_ : (List THand) × TL1Cur => (((0, 0), .box (encTL1Cur x_.2)) :: (fun x : List THand => ([((0, 1), .arr false 5 yTHand (ML encTHand x))] : List (Nm × OO))) x_.1)) x_)) := by
  refine pco_ex_of_run (fun x_ : (List THand) × TL1Cur => okCu x_.2 ∧ (fun x : List THand => x.length ≤ 11) x_.1) (fun x_ : (List THand) × TL1Cur => (fun x : List THand => (.own (0, 1) 5 0 x.length : D)) x_.1) (fun x_ : (List THand) × TL1Cur => (((0, 0), .box (encTL1Cur x_.2)) :: (fun x : List THand => ([((0, 1), .arr false 5 yTHand (ML encTHand x))] : List (Nm × OO))) x_.1)) [] (E := ⟨[c72, c140, c142, c176], [], []⟩) (m := false) (base := 1000000) (Env.ok_cons c72_ok (Env.ok_cons c140_ok (Env.ok_cons c142_ok (Env.ok_cons c176_ok Env.ok_nil)))) G_ok mix 300 6 Try.func122 (by kernel_rfl) rfl (by kernel_rfl) (by kernel_rfl) (by kernel_rfl) rfl ?_
  simp [Try.f122, hc]
  obtain ⟨hl, hh⟩ := v176_ok c hc trivial
  have hb := lt_ne (l := v176 c) (below_bd (n176 c) (v176 c).length)
  have hg : ¬ v176 c = [] → 0 ≤ ((v176 c)[(v72 (n176 c) (v176 c).length).toNat]?.getD default).Thing ∧ ((v176 c)[(v72 (n176 c) (v176 c).length).toNat]?.getD default).Thing ≤ 1000 ∧ 0 ≤ ((v176 c)[(v72 (n176 c) (v176 c).length).toNat]?.getD default).Seal ∧ ((v176 c)[(v72 (n176 c) (v176 c).length).toNat]?.getD default).Seal ≤ 4294967296 := fun h => hh _ (getD_mem (d := default) (hb h).2.2)
  have hg2 : ¬ v176 c = [] → -9223372036854775808 ≤ ((v176 c)[(v72 (n176 c) (v176 c).length).toNat]?.getD default).Thing + 1 ∧ ((v176 c)[(v72 (n176 c) (v176 c).length).toNat]?.getD default).Thing + 1 ≤ 9223372036854775807 ∧ -9223372036854775808 ≤ ((v176 c)[(v72 (n176 c) (v176 c).length).toNat]?.getD default).Seal + 1 ∧ ((v176 c)[(v72 (n176 c) (v176 c).length).toNat]?.getD default).Seal + 1 ≤ 9223372036854775807 := fun h => by have := hg h; omega
  repeat' (with_reducible first | apply and_rev | apply Exists.intro | intro _)
  all_goals try dsimp only
  all_goals try with_reducible rfl
  all_goals try rfl
  all_goals (first | done | omega | assumption | exact List.length_pos_iff.2 (by assumption) | (simp [*]; done) | (simp [*]; omega) | (simp [*, below_eq]; done) | (simp [*, below_eq]; omega) | (simp only [below_eq, Int.reduceLT]; omega) | (have q := hg (by assumption); omega) | trace_state)
open Classical in
noncomputable def q122 (c : TL1Cur) : (List THand) × TL1Cur := if h : okCu c ∧ True then Classical.choose (c122_ex c  h.1 h.2) else (default, ⟨[], 0, 0⟩)
theorem q122_sp (c : TL1Cur) (hc : okCu c) (hp : True) : (fun x_ : (List THand) × TL1Cur => okCu x_.2 ∧ (fun x : List THand => x.length ≤ 11) x_.1) (q122 c ) ∧ PCo Try.prog 122 [.ptr (0, 0) 0] (Tab.of [((0, 0), .box (encTL1Cur c))]) ((fun x_ : (List THand) × TL1Cur => (fun x : List THand => (.own (0, 1) 5 0 x.length : D)) x_.1) (q122 c )) (Tab.of ((fun x_ : (List THand) × TL1Cur => (((0, 0), .box (encTL1Cur x_.2)) :: (fun x : List THand => ([((0, 1), .arr false 5 yTHand (ML encTHand x))] : List (Nm × OO))) x_.1)) (q122 c ))) := by
  have e : q122 c  = Classical.choose (c122_ex c  hc hp) := by rw [q122, dif_pos ⟨hc, hp⟩]
  rw [e]
  exact Classical.choose_spec (c122_ex c  hc hp)
noncomputable def v122 (c : TL1Cur) : List THand := (q122 c ).1
noncomputable def n122 (c : TL1Cur) : TL1Cur := (q122 c ).2
open Classical in
@[simp] theorem n122_ok (c : TL1Cur) : okCu (n122 c ) := by
  by_cases h : okCu c ∧ True
  · exact (q122_sp c  h.1 h.2).1.1
  · rw [n122, q122, dif_neg h]; exact ⟨by simp, by simp, by simp⟩
theorem v122_ok (c : TL1Cur) (hc : okCu c) (hp : True) : (fun x : List THand => x.length ≤ 11) (v122 c ) := (q122_sp c  hc hp).1.2
noncomputable def c122 : Con := mkCon 122 true (α := TL1Cur) (fun x => (fun (c : TL1Cur) => ([.ptr (0, 0) 0] : List D)) x) (fun x => (fun (c : TL1Cur) => ([((0, 0), .box (encTL1Cur c))] : List (Nm × OO))) x) (fun x => (fun (c : TL1Cur) => okCu c ∧ True) x) (fun x => (fun (c : TL1Cur) => (fun x : List THand => (.own (0, 1) 5 0 x.length : D)) (v122 c )) x) (fun x => (fun (c : TL1Cur) => (((0, 0), .box (encTL1Cur (n122 c ))) :: (fun x : List THand => ([((0, 1), .arr false 5 yTHand (ML encTHand x))] : List (Nm × OO))) (v122 c ))) x)
@[simp] theorem c122_f : c122.f = 122 := rfl
@[simp] theorem c122_own : c122.own = true := rfl
theorem c122_inj : ∀ u_ v_ : TL1Cur, ((fun x => (fun (c : TL1Cur) => ([.ptr (0, 0) 0] : List D)) x) u_).map nz = ((fun x => (fun (c : TL1Cur) => ([.ptr (0, 0) 0] : List D)) x) v_).map nz → (fun x => (fun (c : TL1Cur) => ([((0, 0), .box (encTL1Cur c))] : List (Nm × OO))) x) u_ = (fun x => (fun (c : TL1Cur) => ([((0, 0), .box (encTL1Cur c))] : List (Nm × OO))) x) v_ → u_ = v_ := by
  intro u_ v_ h h2_
  obtain ⟨c_b_, c_i_, c_h_⟩ := u_
  obtain ⟨c_b_', c_i_', c_h_'⟩ := v_
  simp [nz_lit, nz1_lit, nz_agg, nz_sl, nz1_sl, nz_sx, nz_el, nz1_el, nz_own, nz1_own, nz_ptr, nz_fn, nz_iface] at h h2_
  first | (simp [h, h2_]; done) | (obtain ⟨h3_, h4_⟩ := List.append_inj h2_ h.1; simp_all; done) | simp_all | grind
@[simp] theorem c122_fn (c : TL1Cur) : c122.fn ([.ptr (0, 0) 0]) ([((0, 0), .box (.agg [.sl false 1 (.lit (.int .u8 0)) (ML dU c.b_), .lit (.int .i64 c.i_), .lit (.int .i64 c.h_)]))]) = some (okCu c ∧ True, (fun x : List THand => (.own (0, 1) 5 0 x.length : D)) (v122 c ), (((0, 0), .box (encTL1Cur (n122 c ))) :: (fun x : List THand => ([((0, 1), .arr false 5 yTHand (ML encTHand x))] : List (Nm × OO))) (v122 c ))) :=
  mkCon_fn c122_inj (c : TL1Cur) rfl rfl
theorem c122_ok : c122.ok Try.prog := mkCon_ok fun c hpre => (q122_sp c  hpre.1 hpre.2).2
/-- loop.example/g03007/spec.DrawAddHand -/
theorem c49_ex (l : List Int) (hp : l.length ≤ 2097152) : ∃ x_ : List THand × THand, (fun x : List THand × THand => x.1.length ≤ 11) x_ ∧ PCo Try.prog 49 [encLU l] (Tab.of []) ((fun x : List THand × THand => (.tup [.sl false 5 yTHand (ML encTHand x.1), encTHand x.2] : D)) x_) (Tab.of ((fun x : List THand × THand => ([] : List (Nm × OO))) x_)) := by
  refine pco_ex_of_run (fun x : List THand × THand => x.1.length ≤ 11) (fun x : List THand × THand => (.tup [.sl false 5 yTHand (ML encTHand x.1), encTHand x.2] : D)) (fun x : List THand × THand => ([] : List (Nm × OO))) [] (E := ⟨[c68, c72, c122, c123], [], []⟩) (m := false) (base := 0) (Env.ok_cons c68_ok (Env.ok_cons c72_ok (Env.ok_cons c122_ok (Env.ok_cons c123_ok Env.ok_nil)))) G_ok mix 300 6 Try.func49 (by kernel_rfl) rfl (by kernel_rfl) (by kernel_rfl) (by kernel_rfl) rfl ?_
  simp [Try.f49, hp]
  have hk := v68_ok l hp
  have hl := v122_ok _ hk trivial
  simp [hk]
  repeat' (with_reducible first | apply and_rev | apply Exists.intro (⟨?_, ?_, ?_, ?_, ?_⟩ : THand) | apply Exists.intro | intro _)
  all_goals try dsimp only
  all_goals try with_reducible rfl
  all_goals try rfl
  all_goals (first | done | omega | assumption | exact List.length_pos_iff.2 (by assumption) | (simp [*]; done) | (simp [*]; omega) | (simp [*, below_eq]; done) | (simp [*, below_eq]; omega) | (simp only [below_eq, Int.reduceLT]; omega) | trace_state)
open Classical in
noncomputable def q49 (l : List Int) : List THand × THand := if h : l.length ≤ 2097152 then Classical.choose (c49_ex l h) else default
theorem q49_sp (l : List Int) (hp : l.length ≤ 2097152) : (fun x : List THand × THand => x.1.length ≤ 11) (q49 l) ∧ PCo Try.prog 49 [encLU l] (Tab.of []) ((fun x : List THand × THand => (.tup [.sl false 5 yTHand (ML encTHand x.1), encTHand x.2] : D)) (q49 l)) (Tab.of ((fun x : List THand × THand => ([] : List (Nm × OO))) (q49 l))) := by
  have e : q49 l = Classical.choose (c49_ex l hp) := by rw [q49, dif_pos hp]
  rw [e]
  exact Classical.choose_spec (c49_ex l hp)
noncomputable def v49 (l : List Int) : List THand × THand := q49 l
theorem v49_ok (l : List Int) (hp : l.length ≤ 2097152) : (fun x : List THand × THand => x.1.length ≤ 11) (v49 l) := (q49_sp l hp).1
noncomputable def c49 : Con := mkCon 49 false (α := (List Int)) (fun x => (fun (l : List Int) => ([encLU l] : List D)) x) (fun x => (fun (l : List Int) => ([] : List (Nm × OO))) x) (fun x => (fun (l : List Int) => l.length ≤ 2097152) x) (fun x => (fun (l : List Int) => (fun x : List THand × THand => (.tup [.sl false 5 yTHand (ML encTHand x.1), encTHand x.2] : D)) (v49 l)) x) (fun x => (fun (l : List Int) => (fun x : List THand × THand => ([] : List (Nm × OO))) (v49 l)) x)
@[simp] theorem c49_f : c49.f = 49 := rfl
@[simp] theorem c49_own : c49.own = false := rfl
theorem c49_inj : ∀ u_ v_ : (List Int), ((fun x => (fun (l : List Int) => ([encLU l] : List D)) x) u_).map nz = ((fun x => (fun (l : List Int) => ([encLU l] : List D)) x) v_).map nz → (fun x => (fun (l : List Int) => ([] : List (Nm × OO))) x) u_ = (fun x => (fun (l : List Int) => ([] : List (Nm × OO))) x) v_ → u_ = v_ := by
  intro u_ v_ h h2_
  obtain l := u_
  obtain l' := v_
  simp [nz_lit, nz1_lit, nz_agg, nz_sl, nz1_sl, nz_sx, nz_el, nz1_el, nz_own, nz1_own, nz_ptr, nz_fn, nz_iface] at h h2_
  first | (simp [h, h2_]; done) | (obtain ⟨h3_, h4_⟩ := List.append_inj h2_ h.1; simp_all; done) | simp_all | grind
@[simp] theorem c49_fn (l : List Int) : c49.fn ([(.sl false 1 (.lit (.int .u8 0)) (ML dU l))]) ([]) = some (l.length ≤ 2097152, (fun x : List THand × THand => (.tup [.sl false 5 yTHand (ML encTHand x.1), encTHand x.2] : D)) (v49 l), (fun x : List THand × THand => ([] : List (Nm × OO))) (v49 l)) :=
  mkCon_fn c49_inj (l : (List Int)) rfl rfl
theorem c49_ok : c49.ok Try.prog := mkCon_ok fun l hpre => (q49_sp l hpre).2
/-- loop.example/g03007/spec.DrawHolderAt -/
theorem c54_ex (l : List Int) (hp : l.length ≤ 2097152) : ∃ x_ : List THand × Int × Int, (fun x : List THand × Int × Int => x.1.length ≤ 11) x_ ∧ PCo Try.prog 54 [encLU l] (Tab.of []) ((fun x : List THand × Int × Int => (.tup [.sl false 5 yTHand (ML encTHand x.1), dI x.2.1, dI x.2.2] : D)) x_) (Tab.of ((fun x : List THand × Int × Int => ([] : List (Nm × OO))) x_)) := by
  refine pco_ex_of_run (fun x : List THand × Int × Int => x.1.length ≤ 11) (fun x : List THand × Int × Int => (.tup [.sl false 5 yTHand (ML encTHand x.1), dI x.2.1, dI x.2.2] : D)) (fun x : List THand × Int × Int => ([] : List (Nm × OO))) [] (E := ⟨[c68, c72, c122], [], []⟩) (m := false) (base := 0) (Env.ok_cons c68_ok (Env.ok_cons c72_ok (Env.ok_cons c122_ok Env.ok_nil))) G_ok mix 300 6 Try.func54 (by kernel_rfl) rfl (by kernel_rfl) (by kernel_rfl) (by kernel_rfl) rfl ?_
  simp [Try.f54, hp]
  have hk := v68_ok l hp
  have hl := v122_ok _ hk trivial
  simp [hk]
  repeat' (with_reducible first | apply and_rev | apply Exists.intro | intro _)
  all_goals try dsimp only
  all_goals try with_reducible rfl
  all_goals try rfl
  all_goals (first | done | omega | assumption | exact List.length_pos_iff.2 (by assumption) | (simp [*]; done) | (simp [*]; omega) | (simp [*, below_eq]; done) | (simp [*, below_eq]; omega) | (simp only [below_eq, Int.reduceLT]; omega) | trace_state)
open Classical in
noncomputable def q54 (l : List Int) : List THand × Int × Int := if h : l.length ≤ 2097152 then Classical.choose (c54_ex l h) else default
theorem q54_sp (l : List Int) (hp : l.length ≤ 2097152) : (fun x : List THand × Int × Int => x.1.length ≤ 11) (q54 l) ∧ PCo Try.prog 54 [encLU l] (Tab.of []) ((fun x : List THand × Int × Int => (.tup [.sl false 5 yTHand (ML encTHand x.1), dI x.2.1, dI x.2.2] : D)) (q54 l)) (Tab.of ((fun x : List THand × Int × Int => ([] : List (Nm × OO))) (q54 l))) := by
  have e : q54 l = Classical.choose (c54_ex l hp) := by rw [q54, dif_pos hp]
  rw [e]
  exact Classical.choose_spec (c54_ex l hp)
noncomputable def v54 (l : List Int) : List THand × Int × Int := q54 l
theorem v54_ok (l : List Int) (hp : l.length ≤ 2097152) : (fun x : List THand × Int × Int => x.1.length ≤ 11) (v54 l) := (q54_sp l hp).1
noncomputable def c54 : Con := mkCon 54 false (α := (List Int)) (fun x => (fun (l : List Int) => ([encLU l] : List D)) x) (fun x => (fun (l : List Int) => ([] : List (Nm × OO))) x) (fun x => (fun (l : List Int) => l.length ≤ 2097152) x) (fun x => (fun (l : List Int) => (fun x : List THand × Int × Int => (.tup [.sl false 5 yTHand (ML encTHand x.1), dI x.2.1, dI x.2.2] : D)) (v54 l)) x) (fun x => (fun (l : List Int) => (fun x : List THand × Int × Int => ([] : List (Nm × OO))) (v54 l)) x)
@[simp] theorem c54_f : c54.f = 54 := rfl
@[simp] theorem c54_own : c54.own = false := rfl
theorem c54_inj : ∀ u_ v_ : (List Int), ((fun x => (fun (l : List Int) => ([encLU l] : List D)) x) u_).map nz = ((fun x => (fun (l : List Int) => ([encLU l] : List D)) x) v_).map nz → (fun x => (fun (l : List Int) => ([] : List (Nm × OO))) x) u_ = (fun x => (fun (l : List Int) => ([] : List (Nm × OO))) x) v_ → u_ = v_ := by
  intro u_ v_ h h2_
  obtain l := u_
  obtain l' := v_
  simp [nz_lit, nz1_lit, nz_agg, nz_sl, nz1_sl, nz_sx, nz_el, nz1_el, nz_own, nz1_own, nz_ptr, nz_fn, nz_iface] at h h2_
  first | (simp [h, h2_]; done) | (obtain ⟨h3_, h4_⟩ := List.append_inj h2_ h.1; simp_all; done) | simp_all | grind
@[simp] theorem c54_fn (l : List Int) : c54.fn ([(.sl false 1 (.lit (.int .u8 0)) (ML dU l))]) ([]) = some (l.length ≤ 2097152, (fun x : List THand × Int × Int => (.tup [.sl false 5 yTHand (ML encTHand x.1), dI x.2.1, dI x.2.2] : D)) (v54 l), (fun x : List THand × Int × Int => ([] : List (Nm × OO))) (v54 l)) :=
  mkCon_fn c54_inj (l : (List Int)) rfl rfl
theorem c54_ok : c54.ok Try.prog := mkCon_ok fun l hpre => (q54_sp l hpre).2
/-- loop.example/g03007/spec.DrawInHouse -/
theorem c56_ex (l : List Int) (hp : l.length ≤ 2097152) : ∃ x_ : List THand × Int, (fun x : List THand × Int => x.1.length ≤ 11) x_ ∧ PCo Try.prog 56 [encLU l] (Tab.of []) ((fun x : List THand × Int => (.tup [.sl false 5 yTHand (ML encTHand x.1), dI x.2] : D)) x_) (Tab.of ((fun x : List THand × Int => ([] : List (Nm × OO))) x_)) := by
  refine pco_ex_of_run (fun x : List THand × Int => x.1.length ≤ 11) (fun x : List THand × Int => (.tup [.sl false 5 yTHand (ML encTHand x.1), dI x.2] : D)) (fun x : List THand × Int => ([] : List (Nm × OO))) [] (E := ⟨[c68, c72, c122], [], []⟩) (m := false) (base := 0) (Env.ok_cons c68_ok (Env.ok_cons c72_ok (Env.ok_cons c122_ok Env.ok_nil))) G_ok mix 300 6 Try.func56 (by kernel_rfl) rfl (by kernel_rfl) (by kernel_rfl) (by kernel_rfl) rfl ?_
  simp [Try.f56, hp]
  have hk := v68_ok l hp
  have hl := v122_ok _ hk trivial
  simp [hk]
  repeat' (with_reducible first | apply and_rev | apply Exists.intro | intro _)
  all_goals try dsimp only
  all_goals try with_reducible rfl
  all_goals try rfl
  all_goals (first | done | omega | assumption | exact List.length_pos_iff.2 (by assumption) | (simp [*]; done) | (simp [*]; omega) | (simp [*, below_eq]; done) | (simp [*, below_eq]; omega) | (simp only [below_eq, Int.reduceLT]; omega) | trace_state)
open Classical in
noncomputable def q56 (l : List Int) : List THand × Int := if h : l.length ≤ 2097152 then Classical.choose (c56_ex l h) else default
theorem q56_sp (l : List Int) (hp : l.length ≤ 2097152) : (fun x : List THand × Int => x.1.length ≤ 11) (q56 l) ∧ PCo Try.prog 56 [encLU l] (Tab.of []) ((fun x : List THand × Int => (.tup [.sl false 5 yTHand (ML encTHand x.1), dI x.2] : D)) (q56 l)) (Tab.of ((fun x : List THand × Int => ([] : List (Nm × OO))) (q56 l))) := by
  have e : q56 l = Classical.choose (c56_ex l hp) := by rw [q56, dif_pos hp]
  rw [e]
  exact Classical.choose_spec (c56_ex l hp)
noncomputable def v56 (l : List Int) : List THand × Int := q56 l
theorem v56_ok (l : List Int) (hp : l.length ≤ 2097152) : (fun x : List THand × Int => x.1.length ≤ 11) (v56 l) := (q56_sp l hp).1
noncomputable def c56 : Con := mkCon 56 false (α := (List Int)) (fun x => (fun (l : List Int) => ([encLU l] : List D)) x) (fun x => (fun (l : List Int) => ([] : List (Nm × OO))) x) (fun x => (fun (l : List Int) => l.length ≤ 2097152) x) (fun x => (fun (l : List Int) => (fun x : List THand × Int => (.tup [.sl false 5 yTHand (ML encTHand x.1), dI x.2] : D)) (v56 l)) x) (fun x => (fun (l : List Int) => (fun x : List THand × Int => ([] : List (Nm × OO))) (v56 l)) x)
@[simp] theorem c56_f : c56.f = 56 := rfl
@[simp] theorem c56_own : c56.own = false := rfl
theorem c56_inj : ∀ u_ v_ : (List Int), ((fun x => (fun (l : List Int) => ([encLU l] : List D)) x) u_).map nz = ((fun x => (fun (l : List Int) => ([encLU l] : List D)) x) v_).map nz → (fun x => (fun (l : List Int) => ([] : List (Nm × OO))) x) u_ = (fun x => (fun (l : List Int) => ([] : List (Nm × OO))) x) v_ → u_ = v_ := by
  intro u_ v_ h h2_
  obtain l := u_
  obtain l' := v_
  simp [nz_lit, nz1_lit, nz_agg, nz_sl, nz1_sl, nz_sx, nz_el, nz1_el, nz_own, nz1_own, nz_ptr, nz_fn, nz_iface] at h h2_
  first | (simp [h, h2_]; done) | (obtain ⟨h3_, h4_⟩ := List.append_inj h2_ h.1; simp_all; done) | simp_all | grind
@[simp] theorem c56_fn (l : List Int) : c56.fn ([(.sl false 1 (.lit (.int .u8 0)) (ML dU l))]) ([]) = some (l.length ≤ 2097152, (fun x : List THand × Int => (.tup [.sl false 5 yTHand (ML encTHand x.1), dI x.2] : D)) (v56 l), (fun x : List THand × Int => ([] : List (Nm × OO))) (v56 l)) :=
  mkCon_fn c56_inj (l : (List Int)) rfl rfl
theorem c56_ok : c56.ok Try.prog := mkCon_ok fun l hpre => (q56_sp l hpre).2

end Go.Proofs.Ytpnfkjbnhholfaa
