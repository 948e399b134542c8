/- Contracts of the functions that the laws run. -/
import Derived.Test.Ytpnfkjbnhholfaagrp
import Derived.Test.YtpnfkjbnhholfaahelpA
import Derived.Test.Ytpnfkjbnhholfaach03
import Derived.Test.YtpnfkjbnhholfaaEngB
namespace Go.Proofs.Ytpnfkjbnhholfaa
open Go Go.Eng
set_option linter.unusedSimpArgs false
set_option linter.unusedVariables false
set_option maxRecDepth 10000
set_option maxHeartbeats 1000000
@[simp] theorem c197_five (a b c d e : Int) : c197.fn [.sl false 1 (.lit (.int .i64 0)) [dI a, dI b, dI c, dI d, dI e]] [] = some (5 ≤ 1099511627776, dI (mHash [a, b, c, d, e]), []) := c197_fn [a, b, c, d, e]
@[simp] theorem c130_five (a b c d e : Int) : c130.fn [.sl false 1 (.lit (.int .i64 0)) [dI a, dI b, dI c, dI d, dI e]] [] = some (5 ≤ 1099511627776, dI (mHash [a, b, c, d, e]), []) := c130_fn [a, b, c, d, e]
def mHandSeal (b : Int) (x : THand) : Int := mHash [b, x.Thing, x.Holder, x.Who, x.At]
/-- loop.example/g03007/spec.HandSeal -/
noncomputable def c229 : Con := mkCon 229 false (α := Int × THand) (fun x => (fun (b : Int) (x : THand) => [dI b, encTHand x]) x.1 x.2) (fun _ => []) (fun x => (fun (b : Int) (x : THand) => True) x.1 x.2) (fun x => (fun (b : Int) (x : THand) => (dI (mHandSeal b x) : D)) x.1 x.2) (fun x => (fun (b : Int) (x : THand) => []) x.1 x.2)
@[simp] theorem c229_f : c229.f = 229 := rfl
@[simp] theorem c229_own : c229.own = false := rfl
theorem c229_inj : ∀ u_ v_ : Int × THand, ((fun x => (fun (b : Int) (x : THand) => [dI b, encTHand x]) x.1 x.2) u_).map nz = ((fun x => (fun (b : Int) (x : THand) => [dI b, encTHand x]) x.1 x.2) v_).map nz → u_ = v_ := by
  intro u_ v_ h
  obtain ⟨b, ⟨x_Thing, x_Holder, x_Who, x_At, x_Seal⟩⟩ := u_
  obtain ⟨b', ⟨x_Thing', x_Holder', x_Who', x_At', x_Seal'⟩⟩ := v_
  simp [nz_lit, nz1_lit, nz_agg, nz_sl, nz1_sl, encTHand] at h
  first | (simp [h]; done) | (obtain ⟨⟩ := h; simp_all; done) | simp_all
@[simp] theorem c229_fn (b : Int) (x_Thing : Int) (x_Holder : Int) (x_Who : Int) (x_At : Int) (x_Seal : Int) : c229.fn [.lit (.int .i64 b), .agg [.lit (.int .i64 x_Thing), .lit (.int .i64 x_Holder), .lit (.int .i64 x_Who), .lit (.int .i64 x_At), .lit (.int .i64 x_Seal)]] [] = some ((fun (b : Int) (x : THand) => True) b ⟨x_Thing, x_Holder, x_Who, x_At, x_Seal⟩, (fun (b : Int) (x : THand) => (dI (mHandSeal b x) : D)) b ⟨x_Thing, x_Holder, x_Who, x_At, x_Seal⟩, (fun (b : Int) (x : THand) => []) b ⟨x_Thing, x_Holder, x_Who, x_At, x_Seal⟩) :=
  mkCon_fn (fun x y h _ => c229_inj x y h) ((b, ⟨x_Thing, x_Holder, x_Who, x_At, x_Seal⟩) : Int × THand) (by simp [nz, nz1, ML_nil, encTHand]) rfl
theorem c229_pc (b : Int) (x : THand) : PCo Try.prog 229 [dI b, encTHand x] (Tab.of []) (dI (mHandSeal b x)) (Tab.of []) := by
  obtain ⟨x_Thing, x_Holder, x_Who, x_At, x_Seal⟩ := x
  refine pco_of_run [] (E := ⟨[c197], [], []⟩) (m := false) (base := 0) (Env.ok_cons c197_ok Env.ok_nil) G_ok mix 300 6 Try.func229 (by kernel_rfl) rfl (by kernel_rfl) (by kernel_rfl) rfl ?_
  simp [Try.f229]
  rfl
theorem c229_ok : c229.ok Try.prog := mkCon_ok fun ⟨b, x⟩ hpre => c229_pc b x
/-- loop.example/g03007/impl.HandSeal -/
noncomputable def c53 : Con := mkCon 53 false (α := Int × THand) (fun x => (fun (b : Int) (x : THand) => [dI b, encTHand x]) x.1 x.2) (fun _ => []) (fun x => (fun (b : Int) (x : THand) => True) x.1 x.2) (fun x => (fun (b : Int) (x : THand) => (dI (mHandSeal b x) : D)) x.1 x.2) (fun x => (fun (b : Int) (x : THand) => []) x.1 x.2)
@[simp] theorem c53_f : c53.f = 53 := rfl
@[simp] theorem c53_own : c53.own = false := rfl
theorem c53_inj : ∀ u_ v_ : Int × THand, ((fun x => (fun (b : Int) (x : THand) => [dI b, encTHand x]) x.1 x.2) u_).map nz = ((fun x => (fun (b : Int) (x : THand) => [dI b, encTHand x]) x.1 x.2) v_).map nz → u_ = v_ := by
  intro u_ v_ h
  obtain ⟨b, ⟨x_Thing, x_Holder, x_Who, x_At, x_Seal⟩⟩ := u_
  obtain ⟨b', ⟨x_Thing', x_Holder', x_Who', x_At', x_Seal'⟩⟩ := v_
  simp [nz_lit, nz1_lit, nz_agg, nz_sl, nz1_sl, encTHand] at h
  first | (simp [h]; done) | (obtain ⟨⟩ := h; simp_all; done) | simp_all
@[simp] theorem c53_fn (b : Int) (x_Thing : Int) (x_Holder : Int) (x_Who : Int) (x_At : Int) (x_Seal : Int) : c53.fn [.lit (.int .i64 b), .agg [.lit (.int .i64 x_Thing), .lit (.int .i64 x_Holder), .lit (.int .i64 x_Who), .lit (.int .i64 x_At), .lit (.int .i64 x_Seal)]] [] = some ((fun (b : Int) (x : THand) => True) b ⟨x_Thing, x_Holder, x_Who, x_At, x_Seal⟩, (fun (b : Int) (x : THand) => (dI (mHandSeal b x) : D)) b ⟨x_Thing, x_Holder, x_Who, x_At, x_Seal⟩, (fun (b : Int) (x : THand) => []) b ⟨x_Thing, x_Holder, x_Who, x_At, x_Seal⟩) :=
  mkCon_fn (fun x y h _ => c53_inj x y h) ((b, ⟨x_Thing, x_Holder, x_Who, x_At, x_Seal⟩) : Int × THand) (by simp [nz, nz1, ML_nil, encTHand]) rfl
theorem c53_pc (b : Int) (x : THand) : PCo Try.prog 53 [dI b, encTHand x] (Tab.of []) (dI (mHandSeal b x)) (Tab.of []) := by
  obtain ⟨x_Thing, x_Holder, x_Who, x_At, x_Seal⟩ := x
  refine pco_of_run [] (E := ⟨[c130], [], []⟩) (m := false) (base := 0) (Env.ok_cons c130_ok Env.ok_nil) G_ok mix 300 6 Try.func53 (by kernel_rfl) rfl (by kernel_rfl) (by kernel_rfl) rfl ?_
  simp [Try.f53]
  rfl
theorem c53_ok : c53.ok Try.prog := mkCon_ok fun ⟨b, x⟩ hpre => c53_pc b x
/-- a thing's hands, linked: the last one first -/
def linkR : List THand → D
  | [] => .lit (.pointer none)
  | x :: t => .el (.agg [.lit (.int .i64 x.Thing), .lit (.int .i64 x.Holder), .lit (.int .i64 x.Who), .lit (.int .i64 x.At), .lit (.int .i64 x.Seal), linkR t])
theorem linkR_nil : linkR [] = .lit (.pointer none) := rfl
theorem linkR_cons (x : THand) (t : List THand) : linkR (x :: t) = .el (.agg [.lit (.int .i64 x.Thing), .lit (.int .i64 x.Holder), .lit (.int .i64 x.Who), .lit (.int .i64 x.At), .lit (.int .i64 x.Seal), linkR t]) := rfl
@[simp] theorem linkR_inj : ∀ (a b : List THand), linkR a = linkR b ↔ a = b
  | [], [] => by simp
  | [], y :: u => by simp [linkR]
  | x :: t, [] => by simp [linkR]
  | x :: t, y :: u => by
    have := linkR_inj t u
    obtain ⟨a, b, c, d, e⟩ := x
    obtain ⟨a', b', c', d', e'⟩ := y
    simp [linkR, this, and_assoc]
@[simp high] theorem pureD_link : ∀ (l : List THand), pureD (linkR l) = true
  | [] => rfl
  | x :: t => by simp [linkR, pureD_link t]
@[simp high] theorem okD_link : ∀ (l : List THand), okD (linkR l) = true
  | [] => rfl
  | x :: t => rfl
@[simp high] theorem oneD_link : ∀ (l : List THand), oneD (linkR l) = true
  | [] => rfl
  | x :: t => rfl
@[simp high] theorem cellsD_link : ∀ (l : List THand), cellsD (linkR l) = [linkR l]
  | [] => rfl
  | x :: t => rfl
@[simp high] theorem isAgg_link : ∀ (l : List THand), (linkR l).isAgg = false
  | [] => rfl
  | x :: t => rfl
@[simp high] theorem partD_link (ti : TI) (l : List THand) : partD ti (linkR l) 0 = if ti.kind.isAgg = false then some (linkR l) else none := by
  by_cases h : ti.kind.isAgg = false
  · rw [if_pos h]; cases l <;> simp only [linkR, partD, h, oneD, Value.oneCell', and_self, if_true]
  · rw [if_neg h]; cases l <;> (simp only [linkR, partD]; rw [if_neg]; exact fun h2 => h h2.2.1)
@[simp high] theorem strip_link : ∀ (l : List THand), strip (linkR l) = linkR l
  | [] => rfl
  | x :: t => rfl
@[simp high] theorem scond_link (g : Bool) : ∀ (l : List THand), scond g (linkR l) = True
  | [] => rfl
  | x :: t => rfl
@[simp high] theorem nz_link : ∀ (l : List THand), nz (linkR l) = linkR l
  | [] => rfl
  | x :: t => rfl
@[simp high] theorem names_link : ∀ (l : List THand), namesD (linkR l) = [] := fun l => pure_name (pureD_link l)
@[simp high] theorem ren_link (ρ : Nm → Nm) (l : List THand) : renD ρ (linkR l) = linkR l := pure_ren (pureD_link l)
@[simp high] theorem lend_link (T : Tab) (k : Nat) : ∀ (l : List THand), lendD T (k + 1) (linkR l) = linkR l
  | [] => rfl
  | x :: t => by
    simp only [linkR, lendD]
    exact if_pos (pureD_link (x :: t))
@[simp high] theorem lendOk_link (T : Tab) (k : Nat) : ∀ (l : List THand), lendOk T (k + 1) (linkR l) = True
  | [] => by simp only [linkR, lendOk]
  | x :: t => by
    simp only [linkR, lendOk]
    exact if_pos (pureD_link (x :: t))
@[simp high] theorem pair_link (a b : List THand) : pairD (linkR a) (linkR b) = [] := by
  induction a generalizing b with
  | nil => cases b <;> rfl
  | cons x t ih => cases b with
    | nil => rfl
    | cons y u => simp [linkR, pairD, pairDs, ih]
@[simp high] theorem le_link (T : Tab) (Δ : List (Nm × Nm)) (a : List THand) : leD T Δ (linkR a) (linkR a) = True := by
  induction a with
  | nil => simp [linkR, leD]
  | cons x t ih => simp [linkR, leD, leDs, ih]
abbrev Gh := List (Int × List THand)
@[simp] def kHd (x : THand) : Int := x.Thing
abbrev bkH (l : List THand) : Gh := grpL kHd l
def linksG (g : Gh) : List D := g.map fun p => linkR p.2.reverse
theorem look_link (g : Gh) (k : Int) : (lookK (keysG g) (linksG g) [k]).getD (.lit (.pointer none)) = linkR (getG g k).reverse := by
  induction g with
  | nil => simp [lookK, keysG, posK, getG, linkR]
  | cons p t ih =>
    obtain ⟨q, r⟩ := p
    by_cases h : k = q
    · subst h; simp [lookK, keysG, linksG, posK, getG]
    · simp only [lookK, keysG, linksG, List.map_cons, posK, List.cons.injEq, and_true, if_neg h, getG] at ih ⊢
      rw [← ih]
      cases posK [k] (List.map (fun p => [p.1]) t) <;> simp
theorem links_add (g : Gh) (k : Int) (x : THand) : updK (keysG g) (linksG g) [k] (linkR (x :: (getG g k).reverse)) = linksG (addG g k x) := by
  induction g with
  | nil => simp [updK, keysG, linksG, posK, addG, getG]
  | cons p t ih =>
    obtain ⟨q, r⟩ := p
    by_cases h : k = q
    · subst h; simp [updK, keysG, linksG, posK, addG, getG]
    · simp only [updK, keysG, linksG, List.map_cons, posK, List.cons.injEq, and_true, if_neg h, addG, getG] at ih ⊢
      rw [← ih]
      cases posK [k] (List.map (fun p => [p.1]) t) <;> simp
theorem links_inj : ∀ (g g' : Gh), keysG g = keysG g' → linksG g = linksG g' → g = g'
  | [], [], _, _ => rfl
  | [], _ :: _, h, _ => by simp [keysG] at h
  | _ :: _, [], h, _ => by simp [keysG] at h
  | (a, r) :: t, (b, q) :: u, h, h2 => by
    simp only [keysG, linksG, List.map_cons, List.cons.injEq, and_true, linkR_inj, List.reverse_inj] at h h2
    obtain ⟨h3, h4⟩ := h
    obtain ⟨h5, h6⟩ := h2
    rw [h3, h5, links_inj t u h4 h6]
@[simp] theorem linksG_inj (g g' : Gh) : (keysG g = keysG g' ∧ linksG g = linksG g') ↔ g = g' := ⟨fun h => links_inj g g' h.1 h.2, fun h => by rw [h]; exact ⟨rfl, rfl⟩⟩
@[simp] theorem linksG_nil : linksG [] = [] := rfl
/-- (loop.example/g03007/impl.handsByThing).note -/
noncomputable def c129 : Con := mkCon 129 true (α := Gh × THand) (fun x => (fun (g : Gh) (x : THand) => ([.mp (0, 0), encTHand x] : List D)) x.1 x.2) (fun x => (fun (g : Gh) (x : THand) => ([((0, 0), .map 0 (keysG g) (.lit (.pointer none)) (linksG g))] : List (Nm × OO))) x.1 x.2) (fun x => (fun (g : Gh) (x : THand) => True) x.1 x.2) (fun x => (fun (g : Gh) (x : THand) => (.tup [] : D)) x.1 x.2) (fun x => (fun (g : Gh) (x : THand) => ([((0, 0), .map 0 (keysG (addG g x.Thing x)) (.lit (.pointer none)) (linksG (addG g x.Thing x)))] : List (Nm × OO))) x.1 x.2)
@[simp] theorem c129_f : c129.f = 129 := rfl
@[simp] theorem c129_own : c129.own = true := rfl
theorem c129_inj : ∀ u_ v_ : Gh × THand, ((fun x => (fun (g : Gh) (x : THand) => ([.mp (0, 0), encTHand x] : List D)) x.1 x.2) u_).map nz = ((fun x => (fun (g : Gh) (x : THand) => ([.mp (0, 0), encTHand x] : List D)) x.1 x.2) v_).map nz → (fun x => (fun (g : Gh) (x : THand) => ([((0, 0), .map 0 (keysG g) (.lit (.pointer none)) (linksG g))] : List (Nm × OO))) x.1 x.2) u_ = (fun x => (fun (g : Gh) (x : THand) => ([((0, 0), .map 0 (keysG g) (.lit (.pointer none)) (linksG g))] : List (Nm × OO))) x.1 x.2) v_ → u_ = v_ := by
  intro u_ v_ h h2_
  obtain ⟨g, ⟨x_Thing, x_Holder, x_Who, x_At, x_Seal⟩⟩ := u_
  obtain ⟨g', ⟨x_Thing', x_Holder', x_Who', x_At', x_Seal'⟩⟩ := v_
  simp [nz_lit, nz1_lit, nz_agg, nz_sl, nz1_sl, nz_sx, nz_el, nz1_el, nz_own, nz1_own, nz_ptr, nz_fn, nz_iface] at h h2_
  first | (simp [h, h2_]; done) | (obtain ⟨h3_, h4_⟩ := List.append_inj h2_ h.1; simp_all; done) | simp_all | grind
@[simp] theorem c129_fn (g : Gh) (x_Thing : Int) (x_Holder : Int) (x_Who : Int) (x_At : Int) (x_Seal : Int) : c129.fn ([.mp (0, 0), .agg [.lit (.int .i64 x_Thing), .lit (.int .i64 x_Holder), .lit (.int .i64 x_Who), .lit (.int .i64 x_At), .lit (.int .i64 x_Seal)]]) ([((0, 0), .map 0 (keysG g) (.lit (.pointer none)) (linksG g))]) = some (True, .tup [], [((0, 0), .map 0 (keysG (addG g (⟨x_Thing, x_Holder, x_Who, x_At, x_Seal⟩ : THand).Thing (⟨x_Thing, x_Holder, x_Who, x_At, x_Seal⟩ : THand))) (.lit (.pointer none)) (linksG (addG g (⟨x_Thing, x_Holder, x_Who, x_At, x_Seal⟩ : THand).Thing (⟨x_Thing, x_Holder, x_Who, x_At, x_Seal⟩ : THand))))]) :=
  mkCon_fn c129_inj ((g, ⟨x_Thing, x_Holder, x_Who, x_At, x_Seal⟩) : Gh × THand) rfl rfl
theorem c129_pc (g : Gh) (x : THand) : PCo Try.prog 129 ([.mp (0, 0), encTHand x]) (Tab.of ([((0, 0), .map 0 (keysG g) (.lit (.pointer none)) (linksG g))])) (.tup []) (Tab.of ([((0, 0), .map 0 (keysG (addG g x.Thing x)) (.lit (.pointer none)) (linksG (addG g x.Thing x)))])) := by
  refine pco_of_run [] (E := ⟨[], [], []⟩) (m := false) (base := 0) Env.ok_nil G_ok mix 300 6 Try.func129 (by kernel_rfl) rfl (by kernel_rfl) (by kernel_rfl) rfl ?_
  have hl := look_link g x.Thing
  have hx := links_add g x.Thing x
  cases hr : (getG g x.Thing).reverse with
  | nil =>
    rw [hr] at hl hx
    simp only [linkR_nil] at hl
    simp only [linkR_cons, linkR_nil] at hx
    simp [Try.f129, hl, hx]
    exact keys_add ..
  | cons y t =>
    rw [hr] at hl hx
    simp only [linkR_cons] at hl hx
    simp [Try.f129, hl, hx]
    exact keys_add ..
theorem c129_ok : c129.ok Try.prog := mkCon_ok fun ⟨g, x⟩ hpre => c129_pc g x
/-- the last hand, and those before it -/
def linkL (q : THand × List THand) : D := .el (.agg [.lit (.int .i64 q.1.Thing), .lit (.int .i64 q.1.Holder), .lit (.int .i64 q.1.Who), .lit (.int .i64 q.1.At), .lit (.int .i64 q.1.Seal), linkR q.2])
/-- loop.example/g03007/impl.lastHands -/
noncomputable def c126 : Con := mkCon 126 false (α := (List THand)) (fun x => (fun (l : List THand) => [encLTHand l]) x) (fun _ => []) (fun x => (fun (l : List THand) => l.length ≤ 1099511627776) x) (fun x => (fun (l : List THand) => (.fm 0 (keysG (bkH l)) (linkL (default, [])) (linksG (bkH l)) : D)) x) (fun x => (fun (l : List THand) => []) x)
@[simp] theorem c126_f : c126.f = 126 := rfl
@[simp] theorem c126_own : c126.own = false := rfl
theorem c126_inj : ∀ u_ v_ : (List THand), ((fun x => (fun (l : List THand) => [encLTHand l]) x) u_).map nz = ((fun x => (fun (l : List THand) => [encLTHand l]) x) v_).map nz → u_ = v_ := by
  intro u_ v_ h
  obtain l := u_
  obtain l' := v_
  simp [nz_lit, nz1_lit, nz_agg, nz_sl, nz1_sl, encLTHand] at h
  first | (simp [h]; done) | (obtain ⟨⟩ := h; simp_all; done) | simp_all
@[simp] theorem c126_fn (l : List THand) : c126.fn [.sl false 5 yTHand (ML encTHand l)] [] = some ((fun (l : List THand) => l.length ≤ 1099511627776) l, (fun (l : List THand) => (.fm 0 (keysG (bkH l)) (linkL (default, [])) (linksG (bkH l)) : D)) l, (fun (l : List THand) => []) l) :=
  mkCon_fn (fun x y h _ => c126_inj x y h) (l : (List THand)) (by simp [nz, nz1, ML_nil, encLTHand]) rfl
@[simp] theorem c126_fn1 (s_l : Nat) (z_l : D) : c126.fn [.sl false s_l z_l []] [] = some ((fun (l : List THand) => l.length ≤ 1099511627776) [], (fun (l : List THand) => (.fm 0 (keysG (bkH l)) (linkL (default, [])) (linksG (bkH l)) : D)) [], (fun (l : List THand) => []) []) :=
  mkCon_fn (fun x y h _ => c126_inj x y h) ([] : (List THand)) (by simp [nz, nz1, ML_nil, encLTHand]) rfl
theorem c126_pc (l : List THand) (hpre : l.length ≤ 1099511627776) : PCo Try.prog 126 [encLTHand l] (Tab.of []) (.fm 0 (keysG (bkH l)) (linkL (default, [])) (linksG (bkH l))) (Tab.of []) := by
  refine pco_of_run [] (E := ⟨[c129, c129], [], []⟩) (m := false) (base := 0) (Env.ok_cons c129_ok (Env.ok_cons c129_ok Env.ok_nil)) G_ok mix 300 6 Try.func126 (by kernel_rfl) rfl (by kernel_rfl) (by kernel_rfl) rfl ?_
  simp [Try.f126]
  refine loop_inv (fun p : Nat => p ≤ l.length) (fun p => [(3, .mp (0, 1)), (7, encLTHand l), (8, dI l.length), (9, dI p)]) (fun p => [((0, 1), .map 0 (keysG (bkH (l.take p))) (.lit (.pointer none)) (linksG (bkH (l.take p))))]) 2 (fun p => l.length - p) 0 400 (by simp) (by simp) (by simp) ?_
  intro p hp
  simp
  refine ⟨fun hlt => ?_, fun hge => ?_⟩
  · have hs := grpL_take (key := kHd) (d := default) hlt
    repeat' (first | omega | refine And.intro ?_ ?_ | intro _)
    refine Again.mk (p + 1) (by omega) (by simp [hs]) (by first | omega | (simp; omega))
  · rw [List.take_of_length_le hge]
theorem c126_ok : c126.ok Try.prog := mkCon_ok fun l hpre => c126_pc l hpre

end Go.Proofs.Ytpnfkjbnhholfaa
