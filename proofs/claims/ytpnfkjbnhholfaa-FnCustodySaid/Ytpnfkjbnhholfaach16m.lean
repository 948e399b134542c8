/- Contracts of the functions that the laws run. -/
import Derived.Test.Ytpnfkjbnhholfaach16c
import Derived.Test.Ytpnfkjbnhholfaaputi
import Derived.Test.Ytpnfkjbnhholfaasorti
import Derived.Test.YtpnfkjbnhholfaaEngB
namespace Go.Proofs.Ytpnfkjbnhholfaa
open Go Go.Eng
set_option linter.unusedSimpArgs false
set_option linter.unusedVariables false
set_option maxRecDepth 10000
set_option maxHeartbeats 1000000
theorem okSeen_len {n : Nat} {s : List Nat} (h : okSeen n s) : s.length ≤ n := by
  have := (List.nodup_range (n := n)).length_le_of_subset (l₂ := List.range n) (fun a h => h)
  exact (by simpa using List.Nodup.length_le_of_subset h.1 (l₂ := List.range n) fun a ha => List.mem_range.2 (h.2 a ha))
def kG (g : Gh) : List Int := g.map (·.1)
theorem kG_len (g : Gh) : (kG g).length = g.length := by simp [kG]
theorem kG_add_mem : ∀ {g : Gh} {k q : Int} {x : THand}, q ∈ kG (addG g k x) ↔ q = k ∨ q ∈ kG g
  | [], k, q, x => by simp [kG, addG]
  | (a, r) :: t, k, q, x => by
    have ih := kG_add_mem (g := t) (k := k) (q := q) (x := x)
    simp only [kG] at ih
    by_cases h : k = a
    · subst h; simp [kG, addG]
    · simp only [kG, addG, if_neg h, List.map_cons, List.mem_cons, ih]; grind
theorem kG_add_nodup : ∀ {g : Gh} {k : Int} {x : THand}, (kG g).Nodup → (kG (addG g k x)).Nodup
  | [], k, x, _ => by simp [kG, addG]
  | (a, r) :: t, k, x, hn => by
    simp only [kG, List.map_cons, List.nodup_cons] at hn
    have ih := kG_add_nodup (g := t) (k := k) (x := x) hn.2
    by_cases h : k = a
    · subst h; simp only [kG, addG, if_true, List.map_cons, List.nodup_cons]; exact hn
    · simp only [kG, addG, if_neg h, List.map_cons, List.nodup_cons]
      refine ⟨fun hm => ?_, ih⟩
      rcases kG_add_mem.1 hm with e | e
      · exact h e.symm
      · exact hn.1 e
theorem kG_bk (l : List THand) : (kG (bkH l)).Nodup ∧ ∀ q, q ∈ kG (bkH l) ↔ q ∈ l.map (·.Thing) := by
  have : ∀ (l : List THand) (g : Gh), (kG g).Nodup → (kG (l.foldl (fun g x => addG g (kHd x) x) g)).Nodup ∧ ∀ q, q ∈ kG (l.foldl (fun g x => addG g (kHd x) x) g) ↔ q ∈ kG g ∨ q ∈ l.map (·.Thing) := by
    intro l
    induction l with
    | nil => intro g h; exact ⟨h, by simp⟩
    | cons x l ih =>
      intro g h
      have h2 := ih (addG g (kHd x) x) (kG_add_nodup h)
      refine ⟨h2.1, fun q => ?_⟩
      rw [List.foldl_cons, h2.2 q, kG_add_mem, List.map_cons, List.mem_cons]
      simp only [kHd]; grind
  have := this l [] (by simp [kG])
  exact ⟨this.1, fun q => by rw [bkH, grpL, this.2 q]; simp [kG]⟩
theorem getG_at : ∀ {g : Gh} {i : Nat}, (kG g).Nodup → i < g.length → getG g ((kG g)[i]?.getD 0) = ((g[i]?.map (·.2)).getD [])
  | [], i, _, h => by simp at h
  | (a, r) :: t, 0, _, _ => by simp [kG, getG]
  | (a, r) :: t, i + 1, hn, h => by
    simp only [kG, List.map_cons, List.nodup_cons] at hn
    have h' : i < t.length := by simpa using h
    have ih := getG_at (g := t) (i := i) hn.2 h'
    have hm : (kG t)[i]?.getD 0 ∈ t.map (·.1) := by
      have h2 : i < (kG t).length := by rw [kG_len]; exact h'
      rw [List.getElem?_eq_getElem h2]; exact List.getElem_mem _
    have hne : (kG t)[i]?.getD 0 ≠ a := fun e => hn.1 (e ▸ hm)
    have e : (kG ((a, r) :: t))[i + 1]?.getD 0 = (kG t)[i]?.getD 0 := by simp [kG]
    rw [e]
    simp only [getG, if_neg hne, ih, List.getElem?_cons_succ]
/-- the last hand of a thing, among some -/
def lastO (l : List THand) (k : Int) : THand := (l.filter (thH k)).getLast?.getD default
def hitB (h : Int) (x : THand) : Bool := decide (x.Holder = 2) && decide (x.Who = h)
def hitT (l : List THand) (h k : Int) : Bool := hitB h (lastO l k)
theorem hd_at {g : Gh} {i : Nat} (hi : i < g.length) : ((hdG g)[i]?.getD (default, [])).1 = ((g[i]?.map (·.2)).getD []).getLast?.getD default := by
  simp only [hdG, List.getElem?_map]
  rw [List.getElem?_eq_getElem hi]
  simp only [Option.map_some, Option.getD_some, headQ]
  rw [← List.head?_reverse]
  cases (g[i].2).reverse <;> rfl
theorem hd_hit {l : List THand} {h : Int} {i : Nat} (hi : i < (bkH l).length) : hitB h ((hdG (bkH l))[i]?.getD (default, [])).1 = hitT l h ((kG (bkH l))[i]?.getD 0) := by
  rw [hd_at hi, hitT, lastO, ← getG_at (kG_bk l).1 hi, bkH, getG_grp]
  rfl
def mHouseG (l : List THand) (h : Int) (p : Nat) : List Int := (((l.take p).map (·.Thing)).filter (hitT l h)).foldl putI []
def mInHouse (l : List THand) (h : Int) : List Int := if mIsChain l then mHouseG l h l.length else []
theorem mHouse_len (l : List THand) (h : Int) (p : Nat) : (mHouseG l h p).length ≤ l.length := by
  have h1 := (foldP (((l.take p).map (·.Thing)).filter (hitT l h)) [] List.Pairwise.nil).2.2
  have h2 := List.length_filter_le (hitT l h) ((l.take p).map (·.Thing))
  simp only [mHouseG]
  simp at h1 h2 ⊢; omega
theorem mInHouse_len (l : List THand) (h : Int) : (mInHouse l h).length ≤ l.length := by
  rw [mInHouse]; split
  · exact mHouse_len ..
  · simp
theorem mHouse_yes {l : List THand} {h : Int} {p : Nat} (hp : p < l.length) (h2 : hitT l h (l[p]?.getD default).Thing = true) : mHouseG l h (p + 1) = putI (mHouseG l h p) (l[p]?.getD default).Thing := by
  rw [mHouseG, take_at (d := default) hp, List.map_append, List.filter_append]
  simp [List.filter, h2, mHouseG]
theorem mHouse_no {l : List THand} {h : Int} {p : Nat} (hp : p < l.length) (h2 : hitT l h (l[p]?.getD default).Thing = false) : mHouseG l h (p + 1) = mHouseG l h p := by
  rw [mHouseG, take_at (d := default) hp, List.map_append, List.filter_append]
  simp [List.filter, h2, mHouseG]
theorem asc_ext {a b : List Int} (ha : a.Pairwise (· < ·)) (hb : b.Pairwise (· < ·)) (h : ∀ w, w ∈ a ↔ w ∈ b) : a = b := by
  have hp : a.Perm b := (List.perm_ext_iff_of_nodup (ha.imp fun h => by omega) (hb.imp fun h => by omega)).2 h
  exact hp.eq_of_pairwise (fun x y _ _ h1 h2 => by omega) ha hb
theorem asc_lt {a : List Int} (h : a.Pairwise (· ≤ ·)) (hn : a.Nodup) : a.Pairwise (· < ·) :=
  (h.and hn).imp fun h => by have := h.1; have := h.2; omega
/-- the things seen that are at the house -/
def tS (g : Gh) (h : Int) (s : List Nat) : List Int := (s.filter fun i => hitB h ((hdG g)[i]?.getD (default, [])).1).map fun i => (kG g)[i]?.getD 0
theorem tS_yes {g : Gh} {h : Int} {s : List Nat} {i : Nat} (h2 : hitB h ((hdG g)[i]?.getD (default, [])).1 = true) : tS g h (s ++ [i]) = tS g h s ++ [(kG g)[i]?.getD 0] := by
  rw [tS, List.filter_append]; simp [List.filter, h2, tS]
theorem tS_no {g : Gh} {h : Int} {s : List Nat} {i : Nat} (h2 : hitB h ((hdG g)[i]?.getD (default, [])).1 = false) : tS g h (s ++ [i]) = tS g h s := by
  rw [tS, List.filter_append]; simp [List.filter, h2, tS]
theorem tS_len (g : Gh) (h : Int) (s : List Nat) : (tS g h s).length ≤ s.length := by
  simp only [tS, List.length_map]; exact List.length_filter_le _ _
theorem tS_sort {l : List THand} {h : Int} {s : List Nat} (hs : okSeen (bkH l).length s) (ha : ∀ i, i < (bkH l).length → i ∈ s) : mSort (tS (bkH l) h s) = mHouseG l h l.length := by
  have hk := kG_bk l
  have hN : (tS (bkH l) h s).Nodup := by
    rw [tS]
    have e2 : ∀ (q : List Nat), q.Nodup → (∀ i ∈ q, i < (bkH l).length) → (q.map fun i => (kG (bkH l))[i]?.getD 0).Nodup := by
      intro q
      induction q with
      | nil => intro _ _; simp
      | cons i q ih =>
        intro hn hb
        rw [List.nodup_cons] at hn
        rw [List.map_cons, List.nodup_cons]
        refine ⟨fun hm => ?_, ih hn.2 fun j hj => hb j (List.mem_cons_of_mem _ hj)⟩
        obtain ⟨j, hj, he⟩ := List.mem_map.1 hm
        have hi4 : i < (kG (bkH l)).length := by rw [kG_len]; exact hb i (List.mem_cons_self ..)
        have hj4 : j < (kG (bkH l)).length := by rw [kG_len]; exact hb j (List.mem_cons_of_mem _ hj)
        rw [List.getElem?_eq_getElem hi4, List.getElem?_eq_getElem hj4] at he
        have := (List.getElem_inj hk.1).1 he
        exact hn.1 (this ▸ hj)
    exact e2 _ (hs.1.filter _) fun i hi => hs.2 i (List.mem_filter.1 hi).1
  have h1 := foldP ((l.map (·.Thing)).filter (hitT l h)) [] List.Pairwise.nil
  have e : mHouseG l h l.length = ((l.map (·.Thing)).filter (hitT l h)).foldl putI [] := by simp [mHouseG]
  rw [e]
  refine asc_ext (asc_lt (mSort_asc _) ((mSort_perm _).nodup_iff.2 hN)) h1.1 fun w => ?_
  rw [(mSort_perm _).mem_iff, h1.2.1 w, List.mem_filter, ← hk.2 w]
  simp only [tS, List.mem_map, List.mem_filter, List.not_mem_nil, false_or]
  constructor
  · rintro ⟨i, ⟨hi, h3⟩, rfl⟩
    have hi2 := hs.2 i hi
    rw [hd_hit hi2] at h3
    refine ⟨?_, h3⟩
    have h4 : i < (kG (bkH l)).length := by rw [kG_len]; exact hi2
    rw [List.getElem?_eq_getElem h4]; exact List.getElem_mem _
  · rintro ⟨hw, h3⟩
    obtain ⟨i, hi, rfl⟩ := List.getElem_of_mem hw
    have hi2 : i < (bkH l).length := by rw [← kG_len]; exact hi
    have h5 : (kG (bkH l))[i]?.getD 0 = (kG (bkH l))[i] := by rw [List.getElem?_eq_getElem hi]; rfl
    refine ⟨i, ⟨ha i hi2, ?_⟩, h5⟩
    rw [hd_hit hi2, h5]; exact h3
@[simp] theorem keysG_head (g : Gh) (i : Nat) : ((keysG g)[i]?.getD []).head?.getD 0 = (kG g)[i]?.getD 0 := by
  simp only [keysG, kG, List.getElem?_map]
  cases g[i]? <;> rfl
/-- loop.example/g03007/impl.InHouse -/
noncomputable def c57 : Con := mkCon 57 false (α := (List THand) × Int) (fun x => (fun (l : List THand) (h : Int) => [encLTHand l, dI h]) x.1 x.2) (fun _ => []) (fun x => (fun (l : List THand) (h : Int) => l.length ≤ 1073741823) x.1 x.2) (fun x => (fun (l : List THand) (h : Int) => (.own (0, 1) 1 0 (mInHouse l h).length : D)) x.1 x.2) (fun x => (fun (l : List THand) (h : Int) => [((0, 1), .arr false 1 (dI 0) (ML dI (mInHouse l h)))]) x.1 x.2)
@[simp] theorem c57_f : c57.f = 57 := rfl
@[simp] theorem c57_own : c57.own = false := rfl
theorem c57_inj : ∀ u_ v_ : (List THand) × Int, ((fun x => (fun (l : List THand) (h : Int) => [encLTHand l, dI h]) x.1 x.2) u_).map nz = ((fun x => (fun (l : List THand) (h : Int) => [encLTHand l, dI h]) x.1 x.2) v_).map nz → u_ = v_ := by
  intro u_ v_ h
  obtain ⟨l, h⟩ := u_
  obtain ⟨l', h'⟩ := v_
  simp [nz_lit, nz1_lit, nz_agg, nz_sl, nz1_sl, encLTHand] at h
  first | (simp [h]; done) | (obtain ⟨⟩ := h; simp_all; done) | simp_all
@[simp] theorem c57_fn (l : List THand) (h : Int) : c57.fn [.sl false 5 yTHand (ML encTHand l), .lit (.int .i64 h)] [] = some ((fun (l : List THand) (h : Int) => l.length ≤ 1073741823) l h, (fun (l : List THand) (h : Int) => (.own (0, 1) 1 0 (mInHouse l h).length : D)) l h, (fun (l : List THand) (h : Int) => [((0, 1), .arr false 1 (dI 0) (ML dI (mInHouse l h)))]) l h) :=
  mkCon_fn (fun x y h _ => c57_inj x y h) ((l, h) : (List THand) × Int) (by simp [nz, nz1, ML_nil, encLTHand]) rfl
@[simp] theorem c57_fn1 (s_l : Nat) (z_l : D) (h : Int) : c57.fn [.sl false s_l z_l [], .lit (.int .i64 h)] [] = some ((fun (l : List THand) (h : Int) => l.length ≤ 1073741823) [] h, (fun (l : List THand) (h : Int) => (.own (0, 1) 1 0 (mInHouse l h).length : D)) [] h, (fun (l : List THand) (h : Int) => [((0, 1), .arr false 1 (dI 0) (ML dI (mInHouse l h)))]) [] h) :=
  mkCon_fn (fun x y h _ => c57_inj x y h) (([], h) : (List THand) × Int) (by simp [nz, nz1, ML_nil, encLTHand]) rfl
theorem c57_pc (l : List THand) (h : Int) (hpre : l.length ≤ 1073741823) : PCo Try.prog 57 [encLTHand l, dI h] (Tab.of []) (.own (0, 1) 1 0 (mInHouse l h).length) (Tab.of [((0, 1), .arr false 1 (dI 0) (ML dI (mInHouse l h)))]) := by
  refine pco_of_run [] (E := ⟨[c52, c126, c132], [], []⟩) (m := false) (base := 0) (Env.ok_cons c52_ok (Env.ok_cons c126_ok (Env.ok_cons c132_ok Env.ok_nil))) G_ok mix 300 6 Try.func57 (by kernel_rfl) rfl (by kernel_rfl) (by kernel_rfl) rfl ?_
  cases hc : mIsChain l with
  | false => simp [Try.f57, hc, mInHouse]; omega
  | true =>
    have hm : mInHouse l h = mHouseG l h l.length := by rw [mInHouse, hc]; rfl
    have hk := links_hd l
    have hgl : (bkH l).length ≤ l.length := grp_count kHd l
    have hts : ∀ s, okSeen (bkH l).length s → (∀ i, i < (bkH l).length → i ∈ s) → mSort (tS (bkH l) h s) = mHouseG l h l.length := fun s => tS_sort
    rw [hm]
    generalize hG : bkH l = g at hk hgl hts ⊢
    simp [Try.f57, hc, hG, hk]
    refine ⟨by omega, ?_⟩
    refine loop_inv (fun s : List Nat => okSeen g.length s) (fun s => [(1, dI h), (5, .own (0, 1) 1 0 (tS g h s).length), (15, .it (1, 1))]) (fun s => [((0, 1), .arr false 1 (dI 0) (ML dI (tS g h s))), ((1, 1), .mit 0 (keysG g) (linkL (default, [])) (lkL (hdG g)) s)]) 2 (fun s => g.length - s.length) [] 400 (by simp) (by simp [okSeen]) (by simp [tS]) ?_
    intro s hs
    simp
    refine ⟨fun i hi his => ?_, fun hall => ?_⟩
    · have h1 := tS_len g h s
      have h2 := seen_lt hs.1 hs.2 hi his
      have hy := fun e => tS_yes (g := g) (h := h) (s := s) (i := i) e
      have hn := fun e => tS_no (g := g) (h := h) (s := s) (i := i) e
      refine ⟨fun h3 h4 => ?_, fun h3 => ?_⟩
      · have hb : hitB h ((hdG g)[i]?.getD (default, [])).1 = true := by simp [hitB, h3, h4]
        exact ⟨by omega, Again.mk (s ++ [i]) (okSeen_snoc hs hi his) (by simp [hy hb]) (by first | omega | (simp; omega))⟩
      · have hb : hitB h ((hdG g)[i]?.getD (default, [])).1 = false := by
          cases e : hitB h ((hdG g)[i]?.getD (default, [])).1 with
          | false => rfl
          | true => simp [hitB] at e; exact absurd e.2 (h3 e.1)
        exact Again.mk (s ++ [i]) (okSeen_snoc hs hi his) (by simp [hn hb]) (by first | omega | (simp; omega))
    · have h1 := tS_len g h s
      have h2 := okSeen_len hs
      have e := hts s (by simpa using hs) (by simpa using hall)
      have e2 := mSort_len (tS g h s)
      rw [e] at e2
      simp [e, e2]
      omega
theorem c57_ok : c57.ok Try.prog := mkCon_ok fun ⟨l, h⟩ hpre => c57_pc l h hpre
theorem last_at {l : List THand} {p : Nat} (hp : p < l.length) : ∃ q, lastIx (l[p]?.getD default).Thing l l.length = some q ∧ q < l.length ∧ l[q]?.getD default = lastO l (l[p]?.getD default).Thing := by
  have h := lastIx_rev (k := (l[p]?.getD default).Thing) (l := l) (p := l.length) (Nat.le_refl _)
  rw [List.take_length, List.head?_reverse] at h
  cases hq : lastIx (l[p]?.getD default).Thing l l.length with
  | none =>
    rw [hq, Option.map_none, List.getLast?_eq_none_iff] at h
    have hm : l[p]?.getD default ∈ l := by rw [List.getElem?_eq_getElem hp]; exact List.getElem_mem _
    have : l[p]?.getD default ∈ l.filter (thH (l[p]?.getD default).Thing) := List.mem_filter.2 ⟨hm, decide_eq_true rfl⟩
    rw [h] at this; cases this
  | some q =>
    refine ⟨q, rfl, (lastIx_lt hq).1, ?_⟩
    rw [hq] at h
    rw [lastO, h]; rfl
end Go.Proofs.Ytpnfkjbnhholfaa
