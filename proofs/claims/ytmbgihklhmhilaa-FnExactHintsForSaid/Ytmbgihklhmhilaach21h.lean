/- Contracts of the functions that the laws run. -/
import Derived.Test.Ytmbgihklhmhilaaasc21
import Derived.Test.Ytmbgihklhmhilaach21
import Derived.Test.Ytmbgihklhmhilaach06
import Derived.Test.Ytmbgihklhmhilaach07
import Derived.Test.YtmbgihklhmhilaaEngB
namespace Go.Proofs.Ytmbgihklhmhilaa
open Go Go.Eng
set_option linter.unusedSimpArgs false
set_option linter.unusedVariables false
set_option maxRecDepth 10000
set_option maxHeartbeats 1000000
theorem asc_ext {a b : List Int} (ha : a.Pairwise (· < ·)) (hb : b.Pairwise (· < ·)) (h : ∀ w, w ∈ a ↔ w ∈ b) : a = b := by
  have hp : a.Perm b := (List.perm_ext_iff_of_nodup (ha.imp fun h => by omega) (hb.imp fun h => by omega)).2 h
  exact hp.eq_of_pairwise (fun x y _ _ h1 h2 => by omega) ha hb
theorem asc_lt {a : List Int} (h : a.Pairwise (· ≤ ·)) (hn : a.Nodup) : a.Pairwise (· < ·) :=
  (h.and hn).imp fun h => by have := h.1; have := h.2; omega
def mSetP (l : List Int) : List Int := l.foldl putI []
theorem mSort_set (l : List Int) : mSort (setI l) = mSetP l := by
  have h1 := foldP l [] List.Pairwise.nil
  refine asc_ext (asc_lt (mSort_asc _) ((mSort_perm _).nodup_iff.2 (setI_nodup l))) h1.1 fun w => ?_
  rw [(mSort_perm _).mem_iff, setI_mem, mSetP, h1.2.1 w]; simp
theorem mSetP_len (l : List Int) : (mSetP l).length ≤ l.length := by
  have := (foldP l [] List.Pairwise.nil).2.2
  simpa [mSetP] using this
theorem set_len_eq (l : List Int) : (setI l).length = (mSetP l).length := by rw [← mSort_set, mSort_len]
@[simp] theorem mSort_nil : mSort [] = [] := by simp [mSort]
theorem setI_snoc (l : List Int) (x : Int) : setI (l ++ [x]) = insI (setI l) x := by simp [setI]
theorem mSetP_snoc (l : List Int) (x : Int) : mSetP (l ++ [x]) = putI (mSetP l) x := by simp [mSetP]
def bdI (l : List Int) : Prop := ∀ x ∈ l, 0 ≤ x ∧ x < 2147483647
theorem fit_set {l : List Int} (h : bdI l) : fitI (setI l) := fun k hk => by have := h k (setI_mem.1 hk); omega
theorem fit_nil : fitI [] := fun k hk => by cases hk
@[simp] theorem asc_nil_fn : c169.fn [.fm 0 [] (.lit (.bool false)) []] [] = some ((0 ≤ 1073741823 ∧ fitI []), .own (0, 1) 1 0 0, [((0, 1), .arr false 1 (dI 0) (ML dI (mSort [])))]) := c169_fn []
theorem ascBy_all {α : Type} {ok : α → Bool} {num : α → Int} : ∀ {l : List α} {o : Option Int}, ascBy ok num o l = true → ∀ x ∈ l, ok x = true
  | [], _, _, x, hx => by cases hx
  | y :: t, o, h, x, hx => by
    have ih := fun o h => ascBy_all (ok := ok) (num := num) (l := t) (o := o) h
    simp only [ascBy, Bool.and_eq_true] at h
    rcases List.mem_cons.1 hx with e | e
    · subst e; exact h.1.1
    · exact ih _ h.2 x e
def hO (salt : Int) (f : TFind) : Int := mHintOf f.Thing salt
def hsL (l : List TFind) (salt : Int) (p : Nat) : List Int := (l.take p).map (hO salt)
theorem hsL_at {l : List TFind} {salt : Int} {p : Nat} (h : p < l.length) : hsL l salt (p + 1) = hsL l salt p ++ [hO salt (l[p]?.getD default)] := by
  rw [hsL, take_at (d := default) h]; simp [hsL]
theorem hsL_bd (l : List TFind) (salt : Int) (p : Nat) : bdI (hsL l salt p) := fun x hx => by
  obtain ⟨f, _, rfl⟩ := List.mem_map.1 hx
  exact mHash_bd _
theorem hsL_len (l : List TFind) (salt : Int) (p : Nat) : (hsL l salt p).length ≤ l.length := by simp [hsL]; omega
def mHintsOf (l : List TFind) (salt : Int) : List Int := if mAreFinds l then mSetP (hsL l salt l.length) else []
theorem mHintsOf_len (l : List TFind) (salt : Int) : (mHintsOf l salt).length ≤ l.length := by
  rw [mHintsOf]; split
  · exact Nat.le_trans (mSetP_len _) (hsL_len ..)
  · simp
theorem find_size {l : List TFind} {p : Nat} (h : mAreFinds l = true) (hp : p < l.length) : 1 ≤ (l[p]?.getD default).Thing.Size ∧ (l[p]?.getD default).Thing.Size ≤ 50 := by
  simp only [mAreFinds, Bool.and_eq_true] at h
  have hm : l[p]?.getD default ∈ l := by rw [List.getElem?_eq_getElem hp]; exact List.getElem_mem _
  have := ascBy_all h.2 _ hm
  simp only [mIsFind, mIsThing, Bool.and_eq_true] at this
  exact mIn_iff.1 this.1.1.1.1.2
/-- loop.example/g03007/impl.HintsOf -/
noncomputable def c72 : Con := mkCon 72 false (α := (List TFind) × Int) (fun x => (fun (l : List TFind) (salt : Int) => [encLTFind l, dI salt]) x.1 x.2) (fun _ => []) (fun x => (fun (l : List TFind) (salt : Int) => l.length ≤ 1073741823) x.1 x.2) (fun x => (fun (l : List TFind) (salt : Int) => (.own (0, 1) 1 0 (mHintsOf l salt).length : D)) x.1 x.2) (fun x => (fun (l : List TFind) (salt : Int) => [((0, 1), .arr false 1 (dI 0) (ML dI (mHintsOf l salt)))]) x.1 x.2)
@[simp] theorem c72_f : c72.f = 72 := rfl
@[simp] theorem c72_own : c72.own = false := rfl
theorem c72_inj : ∀ u_ v_ : (List TFind) × Int, ((fun x => (fun (l : List TFind) (salt : Int) => [encLTFind l, dI salt]) x.1 x.2) u_).map nz = ((fun x => (fun (l : List TFind) (salt : Int) => [encLTFind l, dI salt]) x.1 x.2) v_).map nz → u_ = v_ := by
  intro u_ v_ h
  obtain ⟨l, salt⟩ := u_
  obtain ⟨l', salt'⟩ := v_
  simp [nz_lit, nz1_lit, nz_agg, nz_sl, nz1_sl, encLTFind] at h
  first | (simp [h]; done) | (obtain ⟨⟩ := h; simp_all; done) | simp_all
@[simp] theorem c72_fn (l : List TFind) (salt : Int) : c72.fn [.sl false 8 yTFind (ML encTFind l), .lit (.int .i64 salt)] [] = some ((fun (l : List TFind) (salt : Int) => l.length ≤ 1073741823) l salt, (fun (l : List TFind) (salt : Int) => (.own (0, 1) 1 0 (mHintsOf l salt).length : D)) l salt, (fun (l : List TFind) (salt : Int) => [((0, 1), .arr false 1 (dI 0) (ML dI (mHintsOf l salt)))]) l salt) :=
  mkCon_fn (fun x y h _ => c72_inj x y h) ((l, salt) : (List TFind) × Int) (by simp [nz, nz1, ML_nil, encLTFind]) rfl
@[simp] theorem c72_fn1 (s_l : Nat) (z_l : D) (salt : Int) : c72.fn [.sl false s_l z_l [], .lit (.int .i64 salt)] [] = some ((fun (l : List TFind) (salt : Int) => l.length ≤ 1073741823) [] salt, (fun (l : List TFind) (salt : Int) => (.own (0, 1) 1 0 (mHintsOf l salt).length : D)) [] salt, (fun (l : List TFind) (salt : Int) => [((0, 1), .arr false 1 (dI 0) (ML dI (mHintsOf l salt)))]) [] salt) :=
  mkCon_fn (fun x y h _ => c72_inj x y h) (([], salt) : (List TFind) × Int) (by simp [nz, nz1, ML_nil, encLTFind]) rfl
theorem c72_pc (l : List TFind) (salt : Int) (hpre : l.length ≤ 1073741823) : PCo Try.prog 72 [encLTFind l, dI salt] (Tab.of []) (.own (0, 1) 1 0 (mHintsOf l salt).length) (Tab.of [((0, 1), .arr false 1 (dI 0) (ML dI (mHintsOf l salt)))]) := by
  refine pco_of_run [] (E := ⟨[c168, c169, c170, c171, c170], []⟩) (m := false) (base := 0) (Env.ok_cons c168_ok (Env.ok_cons c169_ok (Env.ok_cons c170_ok (Env.ok_cons c171_ok (Env.ok_cons c170_ok Env.ok_nil))))) G_ok mix 300 6 Try.func72 (by kernel_rfl) rfl (by kernel_rfl) (by kernel_rfl) rfl ?_
  cases hc : mAreFinds l with
  | false =>
    simp [Try.f72, hc, mHintsOf, fit_nil]
    omega
  | true =>
    have hm : mHintsOf l salt = mSetP (hsL l salt l.length) := by rw [mHintsOf, hc]; rfl
    rw [hm]
    simp [Try.f72, hc]
    refine ⟨by omega, ?_⟩
    refine loop_inv (fun p : Nat => p ≤ l.length) (fun p => [(1, dI salt), (5, .mp (0, 1)), (14, encLTFind l), (15, dI l.length), (16, dI p)]) (fun p => [((0, 1), .map 0 (keysI (setI (hsL l salt p))) (dB false) (allT (setI (hsL l salt p))))]) 2 (fun p => l.length - p) 0 400 (by simp) (by simp) (by simp [hsL, setI, keysI, allT]) ?_
    intro p hp
    simp
    refine ⟨fun hlt => ?_, fun hge => ?_⟩
    · have hs := hsL_at (salt := salt) hlt
      have hz := find_size hc hlt
      refine ⟨hlt, by omega, by omega, Again.mk (p + 1) (by omega) (by simp [hs, setI_snoc, hO]) (by first | omega | (simp; omega))⟩
    · have : p = l.length := by omega
      subst this
      have h1 := hsL_len l salt l.length
      have h2 := mSetP_len (hsL l salt l.length)
      simp [mSort_set, set_len_eq, fit_set (hsL_bd l salt l.length)]
      omega
theorem c72_ok : c72.ok Try.prog := mkCon_ok fun ⟨l, salt⟩ hpre => c72_pc l salt hpre
/-- loop.example/g03007/spec.HintsOf -/
noncomputable def c70 : Con := mkCon 70 false (α := (List TFind) × Int) (fun x => (fun (l : List TFind) (salt : Int) => [encLTFind l, dI salt]) x.1 x.2) (fun _ => []) (fun x => (fun (l : List TFind) (salt : Int) => l.length ≤ 1073741823) x.1 x.2) (fun x => (fun (l : List TFind) (salt : Int) => (.own (0, 1) 1 0 (mHintsOf l salt).length : D)) x.1 x.2) (fun x => (fun (l : List TFind) (salt : Int) => [((0, 1), .arr false 1 (dI 0) (ML dI (mHintsOf l salt)))]) x.1 x.2)
@[simp] theorem c70_f : c70.f = 70 := rfl
@[simp] theorem c70_own : c70.own = false := rfl
theorem c70_inj : ∀ u_ v_ : (List TFind) × Int, ((fun x => (fun (l : List TFind) (salt : Int) => [encLTFind l, dI salt]) x.1 x.2) u_).map nz = ((fun x => (fun (l : List TFind) (salt : Int) => [encLTFind l, dI salt]) x.1 x.2) v_).map nz → u_ = v_ := by
  intro u_ v_ h
  obtain ⟨l, salt⟩ := u_
  obtain ⟨l', salt'⟩ := v_
  simp [nz_lit, nz1_lit, nz_agg, nz_sl, nz1_sl, encLTFind] at h
  first | (simp [h]; done) | (obtain ⟨⟩ := h; simp_all; done) | simp_all
@[simp] theorem c70_fn (l : List TFind) (salt : Int) : c70.fn [.sl false 8 yTFind (ML encTFind l), .lit (.int .i64 salt)] [] = some ((fun (l : List TFind) (salt : Int) => l.length ≤ 1073741823) l salt, (fun (l : List TFind) (salt : Int) => (.own (0, 1) 1 0 (mHintsOf l salt).length : D)) l salt, (fun (l : List TFind) (salt : Int) => [((0, 1), .arr false 1 (dI 0) (ML dI (mHintsOf l salt)))]) l salt) :=
  mkCon_fn (fun x y h _ => c70_inj x y h) ((l, salt) : (List TFind) × Int) (by simp [nz, nz1, ML_nil, encLTFind]) rfl
@[simp] theorem c70_fn1 (s_l : Nat) (z_l : D) (salt : Int) : c70.fn [.sl false s_l z_l [], .lit (.int .i64 salt)] [] = some ((fun (l : List TFind) (salt : Int) => l.length ≤ 1073741823) [] salt, (fun (l : List TFind) (salt : Int) => (.own (0, 1) 1 0 (mHintsOf l salt).length : D)) [] salt, (fun (l : List TFind) (salt : Int) => [((0, 1), .arr false 1 (dI 0) (ML dI (mHintsOf l salt)))]) [] salt) :=
  mkCon_fn (fun x y h _ => c70_inj x y h) (([], salt) : (List TFind) × Int) (by simp [nz, nz1, ML_nil, encLTFind]) rfl
theorem c70_pc (l : List TFind) (salt : Int) (hpre : l.length ≤ 1073741823) : PCo Try.prog 70 [encLTFind l, dI salt] (Tab.of []) (.own (0, 1) 1 0 (mHintsOf l salt).length) (Tab.of [((0, 1), .arr false 1 (dI 0) (ML dI (mHintsOf l salt)))]) := by
  refine pco_of_run [] (E := ⟨[c126, c166, c167], []⟩) (m := false) (base := 0) (Env.ok_cons c126_ok (Env.ok_cons c166_ok (Env.ok_cons c167_ok Env.ok_nil))) G_ok mix 300 6 Try.func70 (by kernel_rfl) rfl (by kernel_rfl) (by kernel_rfl) rfl ?_
  simp [Try.f70]
  cases hc : mAreFinds l with
  | false =>
    have hm : mHintsOf l salt = [] := by rw [mHintsOf, hc]; rfl
    rw [hm]
    refine loop_unroll 400 ?_
    simp [hc]
    omega
  | true =>
    have hm : mHintsOf l salt = mSetP (hsL l salt l.length) := by rw [mHintsOf, hc]; rfl
    rw [hm]
    refine loop_inv (fun p : Nat => p ≤ l.length) (fun p => [(0, encLTFind l), (1, dI salt), (5, .own (0, 1) 1 0 (mSetP (hsL l salt p)).length), (6, dI p)]) (fun p => [((0, 1), .arr false 1 (dI 0) (ML dI (mSetP (hsL l salt p))))]) 2 (fun p => l.length - p) 0 400 (by simp) (by simp) (by simp [hsL, mSetP]) ?_
    intro p hp
    simp [hc]
    refine ⟨fun _ => by omega, fun hlt => ?_, fun hge => ?_⟩
    · have hs := hsL_at (salt := salt) hlt
      have hz := find_size hc hlt
      have h1 := hsL_len l salt p
      have h2 := mSetP_len (hsL l salt p)
      refine ⟨⟨hlt, by omega, by omega⟩, by omega, Again.mk (p + 1) (by omega) (by simp [hs, mSetP_snoc, hO]) (by first | omega | (simp; omega))⟩
    · have : p = l.length := by omega
      subst this
      simp
theorem c70_ok : c70.ok Try.prog := mkCon_ok fun ⟨l, salt⟩ hpre => c70_pc l salt hpre
/-- loop.example/g03007/laws.FnExactHintsOf -/
theorem law11 (l : List TFind) (wl : wfLTFind l) (salt : Int) (wsalt : inR .i64 salt) : PCo Try.prog 11 [encLTFind l, dI salt] (Tab.of []) (dB true) (Tab.of []) := by
  refine pco_of_run [] (E := ⟨[c52, c56, c58, c69, c70, c71, c72, c73, c74], []⟩) (m := false) (base := 0) (Env.ok_cons c52_ok (Env.ok_cons c56_ok (Env.ok_cons c58_ok (Env.ok_cons c69_ok (Env.ok_cons c70_ok (Env.ok_cons c71_ok (Env.ok_cons c72_ok (Env.ok_cons c73_ok (Env.ok_cons c74_ok Env.ok_nil))))))))) G_ok mix 400 6 Try.func11 (by kernel_rfl) rfl (by kernel_rfl) (by kernel_rfl) rfl ?_
  simp (config := {maxSteps := 3000000}) [Try.f11]
  have h1 : l.length ≤ maxLen := wl.1
  have hb := mHintsOf_len l salt
  trace_state
  split <;> repeat' (first | omega | refine And.intro ?_ ?_ | intro _)
theorem law11_pc (D0 : D) (h0 : Sh G 9 83 D0) (D1 : D) (h1 : Sh G 9 3 D1) : PC Try.prog 11 [D0, D1] (dB true) [] := by
  obtain ⟨l, rfl, wl⟩ := sh83 (n := 5) h0
  obtain ⟨salt, rfl, wsalt⟩ := sh3 (n := 8) h1
  exact law11 l wl salt wsalt

end Go.Proofs.Ytmbgihklhmhilaa
