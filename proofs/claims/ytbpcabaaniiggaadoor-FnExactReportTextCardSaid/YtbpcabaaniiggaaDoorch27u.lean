/- Contracts of the functions that the laws run. -/
import Derived.Test.YtbpcabaaniiggaaDoorch27t
import Derived.Test.YtbpcabaaniiggaaDoorch06
import Derived.Test.YtbpcabaaniiggaaDoorEngB
namespace Go.Proofs.YtbpcabaaniiggaaDoor
open Go Go.Eng
set_option linter.unusedSimpArgs false
set_option linter.unusedVariables false
set_option maxRecDepth 10000
set_option maxHeartbeats 1000000
theorem finds_in {f : TFind} (h : mIsFind f = true) : (1 ≤ f.Place ∧ f.Place ≤ 30) ∧ (0 ≤ f.At ∧ f.At ≤ 100000) ∧ (0 ≤ f.Finder ∧ f.Finder ≤ 999) := by
  simp only [mIsFind, Bool.and_eq_true] at h
  exact ⟨mIn_iff.1 h.1.1.2, mIn_iff.1 h.1.2, mIn_iff.1 h.2⟩
theorem thing_size (x : TThing) : (mThingText x).size ≤ 100 := by
  rw [mThingText]
  split
  · rename_i h
    have hb := things_in h
    have s1 := mInt_size (n := x.Id) (by omega)
    have s2 := mInt_size (n := x.Size) (by omega)
    have s3 := kind_size x.Kind
    have s4 := colour_size x.Colour
    simp only [app_size, sp1, sp1_size]; omega
  · simp [ByteArray.size]
def mFindText (f : TFind) : ByteArray := if mIsFind f then ((((((mThingText f.Thing ++ ⟨#[32, 64]⟩) ++ mInt f.Place) ++ ⟨#[32, 43]⟩) ++ mInt f.At) ++ ⟨#[32, 98, 121, 32]⟩) ++ mInt f.Finder) else ⟨#[]⟩
theorem lit_size (a : Array UInt8) : (⟨a⟩ : ByteArray).size = a.size := rfl
/-- loop.example/g03007/spec.FindText -/
noncomputable def c28 : Con := mkCon 28 false (α := TFind) (fun x => (fun (f : TFind) => [encTFind f]) x) (fun _ => []) (fun x => (fun (f : TFind) => True) x) (fun x => (fun (f : TFind) => (dS (mFindText f) : D)) x) (fun x => (fun (f : TFind) => []) x)
@[simp] theorem c28_f : c28.f = 28 := rfl
@[simp] theorem c28_own : c28.own = false := rfl
theorem c28_inj : ∀ u_ v_ : TFind, ((fun x => (fun (f : TFind) => [encTFind f]) x) u_).map nz = ((fun x => (fun (f : TFind) => [encTFind f]) x) v_).map nz → u_ = v_ := by
  intro u_ v_ h
  obtain ⟨⟨f_Thing_Id, f_Thing_Kind, f_Thing_Colour, f_Thing_Size, f_Thing_Worth⟩, f_Place, f_At, f_Finder⟩ := u_
  obtain ⟨⟨f_Thing_Id', f_Thing_Kind', f_Thing_Colour', f_Thing_Size', f_Thing_Worth'⟩, f_Place', f_At', f_Finder'⟩ := v_
  simp [nz_lit, nz1_lit, nz_agg, nz_sl, nz1_sl, encTFind, encTThing] at h
  first | (simp [h]; done) | (obtain ⟨⟩ := h; simp_all; done) | simp_all
@[simp] theorem c28_fn (f_Thing_Id : Int) (f_Thing_Kind : Int) (f_Thing_Colour : Int) (f_Thing_Size : Int) (f_Thing_Worth : Int) (f_Place : Int) (f_At : Int) (f_Finder : Int) : c28.fn [.agg [.lit (.int .i64 f_Thing_Id), .lit (.int .i64 f_Thing_Kind), .lit (.int .i64 f_Thing_Colour), .lit (.int .i64 f_Thing_Size), .lit (.int .i64 f_Thing_Worth), .lit (.int .i64 f_Place), .lit (.int .i64 f_At), .lit (.int .i64 f_Finder)]] [] = some ((fun (f : TFind) => True) ⟨⟨f_Thing_Id, f_Thing_Kind, f_Thing_Colour, f_Thing_Size, f_Thing_Worth⟩, f_Place, f_At, f_Finder⟩, (fun (f : TFind) => (dS (mFindText f) : D)) ⟨⟨f_Thing_Id, f_Thing_Kind, f_Thing_Colour, f_Thing_Size, f_Thing_Worth⟩, f_Place, f_At, f_Finder⟩, (fun (f : TFind) => []) ⟨⟨f_Thing_Id, f_Thing_Kind, f_Thing_Colour, f_Thing_Size, f_Thing_Worth⟩, f_Place, f_At, f_Finder⟩) :=
  mkCon_fn (fun x y h _ => c28_inj x y h) (⟨⟨f_Thing_Id, f_Thing_Kind, f_Thing_Colour, f_Thing_Size, f_Thing_Worth⟩, f_Place, f_At, f_Finder⟩ : TFind) (by simp [nz, nz1, ML_nil, encTFind, encTThing]) rfl
theorem c28_pc (f : TFind) : PCo Tryd.prog 28 [encTFind f] (Tab.of []) (dS (mFindText f)) (Tab.of []) := by
  refine pco_of_run [3] (E := ⟨[c14, c16, c67], []⟩) (m := false) (base := 0) (Env.ok_cons c14_ok (Env.ok_cons c16_ok (Env.ok_cons c67_ok Env.ok_nil))) G_ok mix 300 6 Tryd.func28 (by kernel_rfl) rfl (by kernel_rfl) (by kernel_rfl) rfl ?_
  cases h : mIsFind f with
  | true =>
    have hb := finds_in h
    have e : mFindText f = ((((((mThingText f.Thing ++ ⟨#[32, 64]⟩) ++ mInt f.Place) ++ ⟨#[32, 43]⟩) ++ mInt f.At) ++ ⟨#[32, 98, 121, 32]⟩) ++ mInt f.Finder) := by simp [mFindText, h]
    have s1 := mInt_size (n := f.Place) (by omega)
    have s2 := mInt_size (n := f.At) (by omega)
    have s3 := mInt_size (n := f.Finder) (by omega)
    have s4 := thing_size f.Thing
    have z1 : (⟨#[32, 64]⟩ : ByteArray).size = 2 := rfl
    have z2 : (⟨#[32, 43]⟩ : ByteArray).size = 2 := rfl
    have z3 : (⟨#[32, 98, 121, 32]⟩ : ByteArray).size = 4 := rfl
    rw [e]
    obtain ⟨⟨f_Thing_Id, f_Thing_Kind, f_Thing_Colour, f_Thing_Size, f_Thing_Worth⟩, f_Place, f_At, f_Finder⟩ := f
    simp at hb s1 s2 s3 s4
    simp [Tryd.f28, h, z1, z2, z3]
    repeat' (first | omega | refine And.intro ?_ ?_ | intro _)
  | false =>
    have e : mFindText f = ⟨#[]⟩ := by simp [mFindText, h]
    rw [e]
    obtain ⟨⟨f_Thing_Id, f_Thing_Kind, f_Thing_Colour, f_Thing_Size, f_Thing_Worth⟩, f_Place, f_At, f_Finder⟩ := f
    simp [Tryd.f28, h]
theorem c28_ok : c28.ok Tryd.prog := mkCon_ok fun f hpre => c28_pc f
/-- loop.example/g03007/impl.FindText -/
noncomputable def c30 : Con := mkCon 30 false (α := TFind) (fun x => (fun (f : TFind) => [encTFind f]) x) (fun _ => []) (fun x => (fun (f : TFind) => True) x) (fun x => (fun (f : TFind) => (dS (mFindText f) : D)) x) (fun x => (fun (f : TFind) => []) x)
@[simp] theorem c30_f : c30.f = 30 := rfl
@[simp] theorem c30_own : c30.own = false := rfl
theorem c30_inj : ∀ u_ v_ : TFind, ((fun x => (fun (f : TFind) => [encTFind f]) x) u_).map nz = ((fun x => (fun (f : TFind) => [encTFind f]) x) v_).map nz → u_ = v_ := by
  intro u_ v_ h
  obtain ⟨⟨f_Thing_Id, f_Thing_Kind, f_Thing_Colour, f_Thing_Size, f_Thing_Worth⟩, f_Place, f_At, f_Finder⟩ := u_
  obtain ⟨⟨f_Thing_Id', f_Thing_Kind', f_Thing_Colour', f_Thing_Size', f_Thing_Worth'⟩, f_Place', f_At', f_Finder'⟩ := v_
  simp [nz_lit, nz1_lit, nz_agg, nz_sl, nz1_sl, encTFind, encTThing] at h
  first | (simp [h]; done) | (obtain ⟨⟩ := h; simp_all; done) | simp_all
@[simp] theorem c30_fn (f_Thing_Id : Int) (f_Thing_Kind : Int) (f_Thing_Colour : Int) (f_Thing_Size : Int) (f_Thing_Worth : Int) (f_Place : Int) (f_At : Int) (f_Finder : Int) : c30.fn [.agg [.lit (.int .i64 f_Thing_Id), .lit (.int .i64 f_Thing_Kind), .lit (.int .i64 f_Thing_Colour), .lit (.int .i64 f_Thing_Size), .lit (.int .i64 f_Thing_Worth), .lit (.int .i64 f_Place), .lit (.int .i64 f_At), .lit (.int .i64 f_Finder)]] [] = some ((fun (f : TFind) => True) ⟨⟨f_Thing_Id, f_Thing_Kind, f_Thing_Colour, f_Thing_Size, f_Thing_Worth⟩, f_Place, f_At, f_Finder⟩, (fun (f : TFind) => (dS (mFindText f) : D)) ⟨⟨f_Thing_Id, f_Thing_Kind, f_Thing_Colour, f_Thing_Size, f_Thing_Worth⟩, f_Place, f_At, f_Finder⟩, (fun (f : TFind) => []) ⟨⟨f_Thing_Id, f_Thing_Kind, f_Thing_Colour, f_Thing_Size, f_Thing_Worth⟩, f_Place, f_At, f_Finder⟩) :=
  mkCon_fn (fun x y h _ => c30_inj x y h) (⟨⟨f_Thing_Id, f_Thing_Kind, f_Thing_Colour, f_Thing_Size, f_Thing_Worth⟩, f_Place, f_At, f_Finder⟩ : TFind) (by simp [nz, nz1, ML_nil, encTFind, encTThing]) rfl
theorem c30_pc (f : TFind) : PCo Tryd.prog 30 [encTFind f] (Tab.of []) (dS (mFindText f)) (Tab.of []) := by
  refine pco_of_run [3] (E := ⟨[c15, c18, c68], []⟩) (m := false) (base := 0) (Env.ok_cons c15_ok (Env.ok_cons c18_ok (Env.ok_cons c68_ok Env.ok_nil))) G_ok mix 300 6 Tryd.func30 (by kernel_rfl) rfl (by kernel_rfl) (by kernel_rfl) rfl ?_
  cases h : mIsFind f with
  | true =>
    have hb := finds_in h
    have e : mFindText f = ((((((mThingText f.Thing ++ ⟨#[32, 64]⟩) ++ mInt f.Place) ++ ⟨#[32, 43]⟩) ++ mInt f.At) ++ ⟨#[32, 98, 121, 32]⟩) ++ mInt f.Finder) := by simp [mFindText, h]
    have s1 := mInt_size (n := f.Place) (by omega)
    have s2 := mInt_size (n := f.At) (by omega)
    have s3 := mInt_size (n := f.Finder) (by omega)
    have s4 := thing_size f.Thing
    have z1 : (⟨#[32, 64]⟩ : ByteArray).size = 2 := rfl
    have z2 : (⟨#[32, 43]⟩ : ByteArray).size = 2 := rfl
    have z3 : (⟨#[32, 98, 121, 32]⟩ : ByteArray).size = 4 := rfl
    rw [e]
    obtain ⟨⟨f_Thing_Id, f_Thing_Kind, f_Thing_Colour, f_Thing_Size, f_Thing_Worth⟩, f_Place, f_At, f_Finder⟩ := f
    simp at hb s1 s2 s3 s4
    simp [Tryd.f30, h, z1, z2, z3]
    repeat' (first | omega | refine And.intro ?_ ?_ | intro _)
  | false =>
    have e : mFindText f = ⟨#[]⟩ := by simp [mFindText, h]
    rw [e]
    obtain ⟨⟨f_Thing_Id, f_Thing_Kind, f_Thing_Colour, f_Thing_Size, f_Thing_Worth⟩, f_Place, f_At, f_Finder⟩ := f
    simp [Tryd.f30, h]
theorem c30_ok : c30.ok Tryd.prog := mkCon_ok fun f hpre => c30_pc f
/-- loop.example/g03007/laws.FnExactFindText -/
theorem law7 (f : TFind) (wf : wfTFind f) : PCo Tryd.prog 7 [encTFind f] (Tab.of []) (dB true) (Tab.of []) := by
  obtain ⟨⟨f_Thing_Id, f_Thing_Kind, f_Thing_Colour, f_Thing_Size, f_Thing_Worth⟩, f_Place, f_At, f_Finder⟩ := f
  refine pco_of_run [] (E := ⟨[c28, c29, c30], []⟩) (m := false) (base := 0) (Env.ok_cons c28_ok (Env.ok_cons c29_ok (Env.ok_cons c30_ok Env.ok_nil))) G_ok mix 400 6 Tryd.func7 (by kernel_rfl) rfl (by kernel_rfl) (by kernel_rfl) rfl ?_
  simp (config := {maxSteps := 3000000}) [Tryd.f7]
  repeat' (first | omega | assumption | refine And.intro ?_ ?_ | intro _)
  all_goals first | omega | grind | (split at * <;> omega)
theorem law7_pc (D0 : D) (h0 : Sh G 9 48 D0) : PC Tryd.prog 7 [D0] (dB true) [] := by
  obtain ⟨f, rfl, wf⟩ := sh48 (n := 6) h0
  exact law7 f wf
def okI (x : Int) : Prop := -9223372036854775808 ≤ x ∧ x ≤ 9223372036854775807
theorem joinTail_snoc (sep x : List UInt8) (r : List (List UInt8)) : Go.Lib.joinTail sep (r ++ [x]) = Go.Lib.joinTail sep r ++ (sep ++ x) := by simp [Go.Lib.joinTail]
theorem mJoin_nil (s : ByteArray) : mJoin [] s = ⟨#[]⟩ := rfl
theorem mJoin_snoc (l : List ByteArray) (x s : ByteArray) : mJoin (l ++ [x]) s = if l = [] then x else (mJoin l s ++ s) ++ x := by
  cases l with
  | nil =>
    apply ByteArray.ext
    apply Array.ext'
    simp [mJoin, Go.Lib.join_one]
  | cons a l =>
    rw [if_neg (by simp)]
    apply ByteArray.ext
    apply Array.ext'
    simp only [mJoin, List.map_append, List.map_cons, List.map_nil, List.cons_append, Go.Lib.join_cons, joinTail_snoc, ByteArray.data_append, Array.toList_append]
    simp
theorem tail_len {sep : List UInt8} (hs : sep.length = 1) {n : Nat} : ∀ (r : List (List UInt8)), (∀ x ∈ r, x.length ≤ n) → (Go.Lib.joinTail sep r).length ≤ (n + 1) * r.length
  | [], _ => by simp [Go.Lib.joinTail]
  | x :: r, h => by
    have ih := tail_len hs r fun y hy => h y (by simp [hy])
    have hx := h x (by simp)
    simp only [Go.Lib.joinTail, List.map_cons, List.flatten_cons, List.length_append, List.length_cons] at ih ⊢
    rw [Nat.mul_add]; omega
theorem mJoin_size {l : List ByteArray} {s : ByteArray} {n : Nat} (hs : s.size = 1) (h : ∀ x ∈ l, x.size ≤ n) : (mJoin l s).size ≤ (n + 1) * l.length := by
  cases l with
  | nil => rw [mJoin_nil]; exact Nat.zero_le _
  | cons a l =>
    have hs2 : s.data.toList.length = 1 := by rw [Array.length_toList]; exact hs
    have h2 := tail_len hs2 (n := n) (l.map (·.data.toList)) (by
      intro x hx
      obtain ⟨y, hy, rfl⟩ := List.mem_map.1 hx
      show y.data.toList.length ≤ n
      rw [Array.length_toList]
      exact h y (by simp [hy]))
    have h3 : a.data.toList.length ≤ n := by rw [Array.length_toList]; exact h a (by simp)
    rw [mJoin, bs_size, List.map_cons, Go.Lib.join_cons, List.length_append, List.length_cons, Nat.mul_add]
    simp only [List.length_map] at h2
    omega
/-- loop.example/g03007/impl.decimals -/
noncomputable def c60 : Con := mkCon 60 false (α := (List Int)) (fun x => (fun (l : List Int) => [encLI l]) x) (fun _ => []) (fun x => (fun (l : List Int) => l.length ≤ 1048577 ∧ ∀ x ∈ l, okI x) x) (fun x => (fun (l : List Int) => (.sl false 1 (dS ⟨#[]⟩) (ML dS (l.map mInt)) : D)) x) (fun x => (fun (l : List Int) => []) x)
@[simp] theorem c60_f : c60.f = 60 := rfl
@[simp] theorem c60_own : c60.own = false := rfl
theorem c60_inj : ∀ u_ v_ : (List Int), ((fun x => (fun (l : List Int) => [encLI l]) x) u_).map nz = ((fun x => (fun (l : List Int) => [encLI l]) x) v_).map nz → u_ = v_ := by
  intro u_ v_ h
  obtain l := u_
  obtain l' := v_
  simp [nz_lit, nz1_lit, nz_agg, nz_sl, nz1_sl, encLI] at h
  first | (simp [h]; done) | (obtain ⟨⟩ := h; simp_all; done) | simp_all
@[simp] theorem c60_fn (l : List Int) : c60.fn [.sl false 1 (.lit (.int .i64 0)) (ML dI l)] [] = some ((fun (l : List Int) => l.length ≤ 1048577 ∧ ∀ x ∈ l, okI x) l, (fun (l : List Int) => (.sl false 1 (dS ⟨#[]⟩) (ML dS (l.map mInt)) : D)) l, (fun (l : List Int) => []) l) :=
  mkCon_fn (fun x y h _ => c60_inj x y h) (l : (List Int)) (by simp [nz, nz1, ML_nil, encLI]) rfl
@[simp] theorem c60_fn1 (s_l : Nat) (z_l : D) : c60.fn [.sl false s_l z_l []] [] = some ((fun (l : List Int) => l.length ≤ 1048577 ∧ ∀ x ∈ l, okI x) [], (fun (l : List Int) => (.sl false 1 (dS ⟨#[]⟩) (ML dS (l.map mInt)) : D)) [], (fun (l : List Int) => []) []) :=
  mkCon_fn (fun x y h _ => c60_inj x y h) ([] : (List Int)) (by simp [nz, nz1, ML_nil, encLI]) rfl
theorem c60_pc (l : List Int) (hpre : l.length ≤ 1048577 ∧ ∀ x ∈ l, okI x) : PCo Tryd.prog 60 [encLI l] (Tab.of []) (.sl false 1 (dS ⟨#[]⟩) (ML dS (l.map mInt))) (Tab.of []) := by
  refine pco_of_run [] (E := ⟨[c15], []⟩) (m := false) (base := 0) (Env.ok_cons c15_ok Env.ok_nil) G_ok mix 300 6 Tryd.func60 (by kernel_rfl) rfl (by kernel_rfl) (by kernel_rfl) rfl ?_
  simp [Tryd.f60]
  obtain ⟨pre1, pre2⟩ := hpre
  refine loop_inv (fun p : Nat => p ≤ l.length) (fun p => [(3, .own (0, 1) 1 0 p), (7, encLI l), (8, dI l.length), (9, dI p)]) (fun p => [((0, 1), .arr false 1 (dS ⟨#[]⟩) (ML dS ((l.take p).map mInt)))]) 2 (fun p => l.length - p) 0 400 (by simp) (by simp) (by simp) ?_
  intro p hp
  simp
  refine ⟨fun hlt => ?_, fun hge => ?_⟩
  · have hs : (l.take (p + 1)).map mInt = (l.take p).map mInt ++ [mInt (l[p]?.getD 0)] := by rw [take_at (d := 0) hlt]; simp
    have hm : min p l.length = p := by omega
    have hx : okI (l[p]?.getD 0) := pre2 _ (getD_mem hlt)
    simp only [okI] at hx
    repeat' (first | omega | refine And.intro ?_ ?_ | intro _)
    have hs2 : List.take p (List.map mInt l) ++ [mInt (l[p]?.getD 0)] = List.take (p + 1) (List.map mInt l) := by rw [← List.map_take, ← List.map_take, hs]
    exact Again.mk (p + 1) (by omega) (by simp [hs2, hm]) (by first | omega | (simp; omega))
  · have : p = l.length := by omega
    subst this
    have hs2 : List.take l.length (List.map mInt l) = List.map mInt l := by rw [← List.map_take, List.take_length]
    simp [lendD, hs2]
theorem c60_ok : c60.ok Tryd.prog := mkCon_ok fun l hpre => c60_pc l hpre
def mListText (l : List Int) : ByteArray := if l = [] then ⟨#[45]⟩ else mJoin (l.map mInt) ⟨#[44]⟩
theorem list_size {l : List Int} (h : ∀ x ∈ l, okI x) : (mListText l).size ≤ 22 * l.length + 1 := by
  rw [mListText]
  split
  · simp [ByteArray.size]
  · have := mJoin_size (l := l.map mInt) (s := ⟨#[44]⟩) (n := 21) rfl (by
      intro x hx
      obtain ⟨y, hy, rfl⟩ := List.mem_map.1 hx
      exact (mInt_size (h y hy)).2)
    simp only [List.length_map] at this
    omega
/-- loop.example/g03007/impl.ListText -/
noncomputable def c21 : Con := mkCon 21 false (α := (List Int)) (fun x => (fun (l : List Int) => [encLI l]) x) (fun _ => []) (fun x => (fun (l : List Int) => l.length ≤ 1048577 ∧ ∀ x ∈ l, okI x) x) (fun x => (fun (l : List Int) => (dS (mListText l) : D)) x) (fun x => (fun (l : List Int) => []) x)
@[simp] theorem c21_f : c21.f = 21 := rfl
@[simp] theorem c21_own : c21.own = false := rfl
theorem c21_inj : ∀ u_ v_ : (List Int), ((fun x => (fun (l : List Int) => [encLI l]) x) u_).map nz = ((fun x => (fun (l : List Int) => [encLI l]) x) v_).map nz → u_ = v_ := by
  intro u_ v_ h
  obtain l := u_
  obtain l' := v_
  simp [nz_lit, nz1_lit, nz_agg, nz_sl, nz1_sl, encLI] at h
  first | (simp [h]; done) | (obtain ⟨⟩ := h; simp_all; done) | simp_all
@[simp] theorem c21_fn (l : List Int) : c21.fn [.sl false 1 (.lit (.int .i64 0)) (ML dI l)] [] = some ((fun (l : List Int) => l.length ≤ 1048577 ∧ ∀ x ∈ l, okI x) l, (fun (l : List Int) => (dS (mListText l) : D)) l, (fun (l : List Int) => []) l) :=
  mkCon_fn (fun x y h _ => c21_inj x y h) (l : (List Int)) (by simp [nz, nz1, ML_nil, encLI]) rfl
@[simp] theorem c21_fn1 (s_l : Nat) (z_l : D) : c21.fn [.sl false s_l z_l []] [] = some ((fun (l : List Int) => l.length ≤ 1048577 ∧ ∀ x ∈ l, okI x) [], (fun (l : List Int) => (dS (mListText l) : D)) [], (fun (l : List Int) => []) []) :=
  mkCon_fn (fun x y h _ => c21_inj x y h) ([] : (List Int)) (by simp [nz, nz1, ML_nil, encLI]) rfl
theorem c21_pc (l : List Int) (hpre : l.length ≤ 1048577 ∧ ∀ x ∈ l, okI x) : PCo Tryd.prog 21 [encLI l] (Tab.of []) (dS (mListText l)) (Tab.of []) := by
  refine pco_of_run [] (E := ⟨[c59, c60], []⟩) (m := false) (base := 0) (Env.ok_cons c59_ok (Env.ok_cons c60_ok Env.ok_nil)) G_ok mix 300 6 Tryd.func21 (by kernel_rfl) rfl (by kernel_rfl) (by kernel_rfl) rfl ?_
  obtain ⟨pre1, pre2⟩ := hpre
  by_cases h0 : l = []
  · subst h0
    simp [Tryd.f21, mListText]
  · have hl := mJoin_size (l := l.map mInt) (s := ⟨#[44]⟩) (n := 21) rfl (by
      intro x hx
      obtain ⟨y, hy, rfl⟩ := List.mem_map.1 hx
      exact (mInt_size (pre2 y hy)).2)
    simp only [List.length_map] at hl
    simp [Tryd.f21, mListText, h0]
    exact ⟨⟨pre1, pre2⟩, by omega, by omega⟩
theorem c21_ok : c21.ok Tryd.prog := mkCon_ok fun l hpre => c21_pc l hpre
def partL (l : List Int) (p : Nat) : ByteArray := mJoin ((l.take p).map mInt) ⟨#[44]⟩
/-- loop.example/g03007/spec.ListText -/
noncomputable def c19 : Con := mkCon 19 false (α := (List Int)) (fun x => (fun (l : List Int) => [encLI l]) x) (fun _ => []) (fun x => (fun (l : List Int) => l.length ≤ 1048577 ∧ ∀ x ∈ l, okI x) x) (fun x => (fun (l : List Int) => (dS (mListText l) : D)) x) (fun x => (fun (l : List Int) => []) x)
@[simp] theorem c19_f : c19.f = 19 := rfl
@[simp] theorem c19_own : c19.own = false := rfl
theorem c19_inj : ∀ u_ v_ : (List Int), ((fun x => (fun (l : List Int) => [encLI l]) x) u_).map nz = ((fun x => (fun (l : List Int) => [encLI l]) x) v_).map nz → u_ = v_ := by
  intro u_ v_ h
  obtain l := u_
  obtain l' := v_
  simp [nz_lit, nz1_lit, nz_agg, nz_sl, nz1_sl, encLI] at h
  first | (simp [h]; done) | (obtain ⟨⟩ := h; simp_all; done) | simp_all
@[simp] theorem c19_fn (l : List Int) : c19.fn [.sl false 1 (.lit (.int .i64 0)) (ML dI l)] [] = some ((fun (l : List Int) => l.length ≤ 1048577 ∧ ∀ x ∈ l, okI x) l, (fun (l : List Int) => (dS (mListText l) : D)) l, (fun (l : List Int) => []) l) :=
  mkCon_fn (fun x y h _ => c19_inj x y h) (l : (List Int)) (by simp [nz, nz1, ML_nil, encLI]) rfl
@[simp] theorem c19_fn1 (s_l : Nat) (z_l : D) : c19.fn [.sl false s_l z_l []] [] = some ((fun (l : List Int) => l.length ≤ 1048577 ∧ ∀ x ∈ l, okI x) [], (fun (l : List Int) => (dS (mListText l) : D)) [], (fun (l : List Int) => []) []) :=
  mkCon_fn (fun x y h _ => c19_inj x y h) ([] : (List Int)) (by simp [nz, nz1, ML_nil, encLI]) rfl
theorem c19_pc (l : List Int) (hpre : l.length ≤ 1048577 ∧ ∀ x ∈ l, okI x) : PCo Tryd.prog 19 [encLI l] (Tab.of []) (dS (mListText l)) (Tab.of []) := by
  refine pco_of_run [] (E := ⟨[c14], []⟩) (m := false) (base := 0) (Env.ok_cons c14_ok Env.ok_nil) G_ok mix 300 6 Tryd.func19 (by kernel_rfl) rfl (by kernel_rfl) (by kernel_rfl) rfl ?_
  simp [Tryd.f19]
  obtain ⟨pre1, pre2⟩ := hpre
  refine loop_inv (fun p : Nat => p ≤ l.length) (fun p => [(0, encLI l), (3, dS (partL l p)), (4, dI p)]) (fun _ => []) 1 (fun p => l.length - p) 0 400 (by simp) (by simp) (by simp [partL, mJoin_nil]) ?_
  intro p hp
  have hsz := mJoin_size (l := (l.take p).map mInt) (s := ⟨#[44]⟩) (n := 21) rfl (by
    intro x hx
    obtain ⟨y, hy, rfl⟩ := List.mem_map.1 hx
    exact (mInt_size (pre2 y (List.mem_of_mem_take hy))).2)
  have hpl : (partL l p).size ≤ 22 * p := by
    rw [List.length_map, List.length_take] at hsz
    have := Nat.min_le_left p l.length
    simp only [partL]; omega
  have z1 : (⟨#[44]⟩ : ByteArray).size = 1 := rfl
  simp [z1, app_size]
  refine ⟨fun hlt => ?_, fun hge => ?_⟩
  · have hs : (l.take (p + 1)).map mInt = (l.take p).map mInt ++ [mInt (l[p]?.getD 0)] := by rw [take_at (d := 0) hlt]; simp
    have hx : okI (l[p]?.getD 0) := pre2 _ (getD_mem hlt)
    have hi := mInt_size hx
    simp only [okI] at hx
    have hst : partL l (p + 1) = if p = 0 then mInt (l[p]?.getD 0) else (partL l p ++ ⟨#[44]⟩) ++ mInt (l[p]?.getD 0) := by
      simp only [partL]
      rw [hs, mJoin_snoc]
      by_cases h0 : p = 0
      · subst h0; simp
      · rw [if_neg h0, if_neg]
        intro e
        have := congrArg List.length e
        rw [List.length_map, List.length_take] at this
        simp only [List.length_nil] at this
        omega
    have hst1 : 0 < p → partL l (p + 1) = (partL l p ++ ⟨#[44]⟩) ++ mInt (l[p]?.getD 0) := fun h => by rw [hst, if_neg (by omega)]
    have hst2 : p = 0 → partL l (p + 1) = partL l p ++ mInt (l[p]?.getD 0) := fun h => by
      rw [hst, if_pos h]
      subst h
      apply ByteArray.ext
      simp [partL, mJoin_nil, ByteArray.data_append]
    refine ⟨fun h0 => ?_, fun h0 => ?_⟩
    · have e := hst1 h0
      repeat' (first | omega | refine And.intro ?_ ?_ | intro _)
      exact Again.mk (p + 1) (by omega) (by simp [e]) (by first | omega | (simp; omega))
    · have e := hst2 h0
      repeat' (first | omega | refine And.intro ?_ ?_ | intro _)
      exact Again.mk (p + 1) (by omega) (by simp [e]) (by first | omega | (simp; omega))
  · have : p = l.length := by omega
    subst this
    simp [partL, mListText]
    exact ⟨fun a b => absurd a b, fun a b => absurd b a⟩
theorem c19_ok : c19.ok Tryd.prog := mkCon_ok fun l hpre => c19_pc l hpre
/-- loop.example/g03007/laws.FnExactListText -/
theorem law5 (l : List Int) (wl : wfLI l) : PCo Tryd.prog 5 [encLI l] (Tab.of []) (dB true) (Tab.of []) := by
  refine pco_of_run [] (E := ⟨[c19, c20, c21, c22], []⟩) (m := false) (base := 0) (Env.ok_cons c19_ok (Env.ok_cons c20_ok (Env.ok_cons c21_ok (Env.ok_cons c22_ok Env.ok_nil)))) G_ok mix 400 6 Tryd.func5 (by kernel_rfl) rfl (by kernel_rfl) (by kernel_rfl) rfl ?_
  simp (config := {maxSteps := 3000000}) [Tryd.f5]
  have h1 := wl.1
  have h2 : ∀ x ∈ l, okI x := fun x hx => by have := wl.2 x hx; simpa [inR, okI] using this
  exact fun h => ⟨⟨by omega, by omega, h2⟩, by omega, ⟨by omega, h2⟩, by omega⟩
theorem law5_pc (D0 : D) (h0 : Sh G 9 30 D0) : PC Tryd.prog 5 [D0] (dB true) [] := by
  obtain ⟨l, rfl, wl⟩ := sh30 (n := 7) h0
  exact law5 l wl

end Go.Proofs.YtbpcabaaniiggaaDoor
