/- Contracts of the functions that the laws run. -/
import Derived.Test.YtmhbciaolpamaaaRch11
import Derived.Test.YtmhbciaolpamaaaRch19c
import Derived.Test.YtmhbciaolpamaaaRch06
import Derived.Test.YtmhbciaolpamaaaRgen
import Derived.Test.YtmhbciaolpamaaaREngB
namespace Go.Proofs.YtmhbciaolpamaaaR
open Go Go.Eng
set_option linter.unusedSimpArgs false
set_option linter.unusedVariables false
set_option maxRecDepth 10000
set_option maxHeartbeats 1000000
@[simp] def smE (x : TEvent) : Prop := x.Marks.length ≤ 1099511627776 ∧ x.Bids.length ≤ 1099511627776
@[simp] def smEM (x : TEvent) : Prop := x.Marks.length ≤ maxLen ∧ x.Bids.length ≤ maxLen
def szE (r : TEvent) (left : Int) : Int := if left - r.Marks.length < 0 ∨ left - r.Marks.length - r.Bids.length < 0 then -1 else left - r.Marks.length - r.Bids.length
/-- loop.example/g03007/laws.toEvent -/
noncomputable def c159 : Con := mkCon 159 false (α := TEvent) (fun x => (fun (x : TEvent) => [encTEvent x]) x) (fun _ => []) (fun x => (fun (x : TEvent) => smE x) x) (fun x => (fun (x : TEvent) => (encTEvent x : D)) x) (fun x => (fun (x : TEvent) => []) x)
@[simp] theorem c159_f : c159.f = 159 := rfl
@[simp] theorem c159_own : c159.own = false := rfl
theorem c159_inj : ∀ u_ v_ : TEvent, ((fun x => (fun (x : TEvent) => [encTEvent x]) x) u_).map nz = ((fun x => (fun (x : TEvent) => [encTEvent x]) x) v_).map nz → u_ = v_ := by
  intro u_ v_ h
  obtain ⟨x_Kind, ⟨⟨x_Find_Thing_Id, x_Find_Thing_Kind, x_Find_Thing_Colour, x_Find_Thing_Size, x_Find_Thing_Worth⟩, x_Find_Place, x_Find_At, x_Find_Finder⟩, x_Marks, x_Id, x_Who, x_N, x_Bids⟩ := u_
  obtain ⟨x_Kind', ⟨⟨x_Find_Thing_Id', x_Find_Thing_Kind', x_Find_Thing_Colour', x_Find_Thing_Size', x_Find_Thing_Worth'⟩, x_Find_Place', x_Find_At', x_Find_Finder'⟩, x_Marks', x_Id', x_Who', x_N', x_Bids'⟩ := v_
  simp [nz_lit, nz1_lit, nz_agg, nz_sl, nz1_sl, encLTBid, encLTMark, encTEvent, encTFind, encTThing] at h
  first | (simp [h]; done) | (obtain ⟨⟩ := h; simp_all; done) | simp_all
@[simp] theorem c159_fn (x_Kind : Int) (x_Find_Thing_Id : Int) (x_Find_Thing_Kind : Int) (x_Find_Thing_Colour : Int) (x_Find_Thing_Size : Int) (x_Find_Thing_Worth : Int) (x_Find_Place : Int) (x_Find_At : Int) (x_Find_Finder : Int) (x_Marks : List TMark) (x_Id : Int) (x_Who : Int) (x_N : Int) (x_Bids : List TBid) : c159.fn [.agg [.lit (.int .i64 x_Kind), .lit (.int .i64 x_Find_Thing_Id), .lit (.int .i64 x_Find_Thing_Kind), .lit (.int .i64 x_Find_Thing_Colour), .lit (.int .i64 x_Find_Thing_Size), .lit (.int .i64 x_Find_Thing_Worth), .lit (.int .i64 x_Find_Place), .lit (.int .i64 x_Find_At), .lit (.int .i64 x_Find_Finder), .sl false 2 yTMark (ML encTMark x_Marks), .lit (.int .i64 x_Id), .lit (.int .i64 x_Who), .lit (.int .i64 x_N), .sl false 3 yTBid (ML encTBid x_Bids)]] [] = some ((fun (x : TEvent) => smE x) ⟨x_Kind, ⟨⟨x_Find_Thing_Id, x_Find_Thing_Kind, x_Find_Thing_Colour, x_Find_Thing_Size, x_Find_Thing_Worth⟩, x_Find_Place, x_Find_At, x_Find_Finder⟩, x_Marks, x_Id, x_Who, x_N, x_Bids⟩, (fun (x : TEvent) => (encTEvent x : D)) ⟨x_Kind, ⟨⟨x_Find_Thing_Id, x_Find_Thing_Kind, x_Find_Thing_Colour, x_Find_Thing_Size, x_Find_Thing_Worth⟩, x_Find_Place, x_Find_At, x_Find_Finder⟩, x_Marks, x_Id, x_Who, x_N, x_Bids⟩, (fun (x : TEvent) => []) ⟨x_Kind, ⟨⟨x_Find_Thing_Id, x_Find_Thing_Kind, x_Find_Thing_Colour, x_Find_Thing_Size, x_Find_Thing_Worth⟩, x_Find_Place, x_Find_At, x_Find_Finder⟩, x_Marks, x_Id, x_Who, x_N, x_Bids⟩) :=
  mkCon_fn (fun x y h _ => c159_inj x y h) (⟨x_Kind, ⟨⟨x_Find_Thing_Id, x_Find_Thing_Kind, x_Find_Thing_Colour, x_Find_Thing_Size, x_Find_Thing_Worth⟩, x_Find_Place, x_Find_At, x_Find_Finder⟩, x_Marks, x_Id, x_Who, x_N, x_Bids⟩ : TEvent) (by simp [nz, nz1, ML_nil, encLTBid, encLTMark, encTEvent, encTFind, encTThing]) rfl
theorem c159_pc (x : TEvent) (hpre : smE x) : PCo Try.prog 159 [encTEvent x] (Tab.of []) (encTEvent x) (Tab.of []) := by
  obtain ⟨x_Kind, ⟨⟨x_Find_Thing_Id, x_Find_Thing_Kind, x_Find_Thing_Colour, x_Find_Thing_Size, x_Find_Thing_Worth⟩, x_Find_Place, x_Find_At, x_Find_Finder⟩, x_Marks, x_Id, x_Who, x_N, x_Bids⟩ := x
  refine pco_of_run [] (E := ⟨[c57, c63, c207], []⟩) (m := false) (base := 0) (Env.ok_cons c57_ok (Env.ok_cons c63_ok (Env.ok_cons c207_ok Env.ok_nil))) G_ok mix 300 6 Try.func159 (by kernel_rfl) rfl (by kernel_rfl) (by kernel_rfl) rfl ?_
  simp [Try.f159]
  simp at hpre
  repeat' (first | omega | refine And.intro ?_ ?_ | intro _)
theorem c159_ok : c159.ok Try.prog := mkCon_ok fun x hpre => c159_pc x hpre
/-- loop.example/g03007/laws.eqEvent -/
noncomputable def c162 : Con := mkCon 162 false (α := TEvent × TEvent) (fun x => (fun (a : TEvent) (b : TEvent) => [encTEvent a, encTEvent b]) x.1 x.2) (fun _ => []) (fun x => (fun (a : TEvent) (b : TEvent) => smE a ∧ smE b) x.1 x.2) (fun x => (fun (a : TEvent) (b : TEvent) => (dB (decide (a = b)) : D)) x.1 x.2) (fun x => (fun (a : TEvent) (b : TEvent) => []) x.1 x.2)
@[simp] theorem c162_f : c162.f = 162 := rfl
@[simp] theorem c162_own : c162.own = false := rfl
theorem c162_inj : ∀ u_ v_ : TEvent × TEvent, ((fun x => (fun (a : TEvent) (b : TEvent) => [encTEvent a, encTEvent b]) x.1 x.2) u_).map nz = ((fun x => (fun (a : TEvent) (b : TEvent) => [encTEvent a, encTEvent b]) x.1 x.2) v_).map nz → u_ = v_ := by
  intro u_ v_ h
  obtain ⟨⟨a_Kind, ⟨⟨a_Find_Thing_Id, a_Find_Thing_Kind, a_Find_Thing_Colour, a_Find_Thing_Size, a_Find_Thing_Worth⟩, a_Find_Place, a_Find_At, a_Find_Finder⟩, a_Marks, a_Id, a_Who, a_N, a_Bids⟩, ⟨b_Kind, ⟨⟨b_Find_Thing_Id, b_Find_Thing_Kind, b_Find_Thing_Colour, b_Find_Thing_Size, b_Find_Thing_Worth⟩, b_Find_Place, b_Find_At, b_Find_Finder⟩, b_Marks, b_Id, b_Who, b_N, b_Bids⟩⟩ := u_
  obtain ⟨⟨a_Kind', ⟨⟨a_Find_Thing_Id', a_Find_Thing_Kind', a_Find_Thing_Colour', a_Find_Thing_Size', a_Find_Thing_Worth'⟩, a_Find_Place', a_Find_At', a_Find_Finder'⟩, a_Marks', a_Id', a_Who', a_N', a_Bids'⟩, ⟨b_Kind', ⟨⟨b_Find_Thing_Id', b_Find_Thing_Kind', b_Find_Thing_Colour', b_Find_Thing_Size', b_Find_Thing_Worth'⟩, b_Find_Place', b_Find_At', b_Find_Finder'⟩, b_Marks', b_Id', b_Who', b_N', b_Bids'⟩⟩ := v_
  simp [nz_lit, nz1_lit, nz_agg, nz_sl, nz1_sl, encLTBid, encLTMark, encTEvent, encTFind, encTThing] at h
  first | (simp [h]; done) | (obtain ⟨⟩ := h; simp_all; done) | simp_all
@[simp] theorem c162_fn (a_Kind : Int) (a_Find_Thing_Id : Int) (a_Find_Thing_Kind : Int) (a_Find_Thing_Colour : Int) (a_Find_Thing_Size : Int) (a_Find_Thing_Worth : Int) (a_Find_Place : Int) (a_Find_At : Int) (a_Find_Finder : Int) (a_Marks : List TMark) (a_Id : Int) (a_Who : Int) (a_N : Int) (a_Bids : List TBid) (b_Kind : Int) (b_Find_Thing_Id : Int) (b_Find_Thing_Kind : Int) (b_Find_Thing_Colour : Int) (b_Find_Thing_Size : Int) (b_Find_Thing_Worth : Int) (b_Find_Place : Int) (b_Find_At : Int) (b_Find_Finder : Int) (b_Marks : List TMark) (b_Id : Int) (b_Who : Int) (b_N : Int) (b_Bids : List TBid) : c162.fn [.agg [.lit (.int .i64 a_Kind), .lit (.int .i64 a_Find_Thing_Id), .lit (.int .i64 a_Find_Thing_Kind), .lit (.int .i64 a_Find_Thing_Colour), .lit (.int .i64 a_Find_Thing_Size), .lit (.int .i64 a_Find_Thing_Worth), .lit (.int .i64 a_Find_Place), .lit (.int .i64 a_Find_At), .lit (.int .i64 a_Find_Finder), .sl false 2 yTMark (ML encTMark a_Marks), .lit (.int .i64 a_Id), .lit (.int .i64 a_Who), .lit (.int .i64 a_N), .sl false 3 yTBid (ML encTBid a_Bids)], .agg [.lit (.int .i64 b_Kind), .lit (.int .i64 b_Find_Thing_Id), .lit (.int .i64 b_Find_Thing_Kind), .lit (.int .i64 b_Find_Thing_Colour), .lit (.int .i64 b_Find_Thing_Size), .lit (.int .i64 b_Find_Thing_Worth), .lit (.int .i64 b_Find_Place), .lit (.int .i64 b_Find_At), .lit (.int .i64 b_Find_Finder), .sl false 2 yTMark (ML encTMark b_Marks), .lit (.int .i64 b_Id), .lit (.int .i64 b_Who), .lit (.int .i64 b_N), .sl false 3 yTBid (ML encTBid b_Bids)]] [] = some ((fun (a : TEvent) (b : TEvent) => smE a ∧ smE b) ⟨a_Kind, ⟨⟨a_Find_Thing_Id, a_Find_Thing_Kind, a_Find_Thing_Colour, a_Find_Thing_Size, a_Find_Thing_Worth⟩, a_Find_Place, a_Find_At, a_Find_Finder⟩, a_Marks, a_Id, a_Who, a_N, a_Bids⟩ ⟨b_Kind, ⟨⟨b_Find_Thing_Id, b_Find_Thing_Kind, b_Find_Thing_Colour, b_Find_Thing_Size, b_Find_Thing_Worth⟩, b_Find_Place, b_Find_At, b_Find_Finder⟩, b_Marks, b_Id, b_Who, b_N, b_Bids⟩, (fun (a : TEvent) (b : TEvent) => (dB (decide (a = b)) : D)) ⟨a_Kind, ⟨⟨a_Find_Thing_Id, a_Find_Thing_Kind, a_Find_Thing_Colour, a_Find_Thing_Size, a_Find_Thing_Worth⟩, a_Find_Place, a_Find_At, a_Find_Finder⟩, a_Marks, a_Id, a_Who, a_N, a_Bids⟩ ⟨b_Kind, ⟨⟨b_Find_Thing_Id, b_Find_Thing_Kind, b_Find_Thing_Colour, b_Find_Thing_Size, b_Find_Thing_Worth⟩, b_Find_Place, b_Find_At, b_Find_Finder⟩, b_Marks, b_Id, b_Who, b_N, b_Bids⟩, (fun (a : TEvent) (b : TEvent) => []) ⟨a_Kind, ⟨⟨a_Find_Thing_Id, a_Find_Thing_Kind, a_Find_Thing_Colour, a_Find_Thing_Size, a_Find_Thing_Worth⟩, a_Find_Place, a_Find_At, a_Find_Finder⟩, a_Marks, a_Id, a_Who, a_N, a_Bids⟩ ⟨b_Kind, ⟨⟨b_Find_Thing_Id, b_Find_Thing_Kind, b_Find_Thing_Colour, b_Find_Thing_Size, b_Find_Thing_Worth⟩, b_Find_Place, b_Find_At, b_Find_Finder⟩, b_Marks, b_Id, b_Who, b_N, b_Bids⟩) :=
  mkCon_fn (fun x y h _ => c162_inj x y h) ((⟨a_Kind, ⟨⟨a_Find_Thing_Id, a_Find_Thing_Kind, a_Find_Thing_Colour, a_Find_Thing_Size, a_Find_Thing_Worth⟩, a_Find_Place, a_Find_At, a_Find_Finder⟩, a_Marks, a_Id, a_Who, a_N, a_Bids⟩, ⟨b_Kind, ⟨⟨b_Find_Thing_Id, b_Find_Thing_Kind, b_Find_Thing_Colour, b_Find_Thing_Size, b_Find_Thing_Worth⟩, b_Find_Place, b_Find_At, b_Find_Finder⟩, b_Marks, b_Id, b_Who, b_N, b_Bids⟩) : TEvent × TEvent) (by simp [nz, nz1, ML_nil, encLTBid, encLTMark, encTEvent, encTFind, encTThing]) rfl
theorem c162_pc (a : TEvent) (b : TEvent) (hpre : smE a ∧ smE b) : PCo Try.prog 162 [encTEvent a, encTEvent b] (Tab.of []) (dB (decide (a = b))) (Tab.of []) := by
  obtain ⟨a_Kind, ⟨⟨a_Find_Thing_Id, a_Find_Thing_Kind, a_Find_Thing_Colour, a_Find_Thing_Size, a_Find_Thing_Worth⟩, a_Find_Place, a_Find_At, a_Find_Finder⟩, a_Marks, a_Id, a_Who, a_N, a_Bids⟩ := a
  obtain ⟨b_Kind, ⟨⟨b_Find_Thing_Id, b_Find_Thing_Kind, b_Find_Thing_Colour, b_Find_Thing_Size, b_Find_Thing_Worth⟩, b_Find_Place, b_Find_At, b_Find_Finder⟩, b_Marks, b_Id, b_Who, b_N, b_Bids⟩ := b
  refine pco_of_run [] (E := ⟨[c65, c126, c210], []⟩) (m := false) (base := 0) (Env.ok_cons c65_ok (Env.ok_cons c126_ok (Env.ok_cons c210_ok Env.ok_nil))) G_ok mix 300 6 Try.func162 (by kernel_rfl) rfl (by kernel_rfl) (by kernel_rfl) rfl ?_
  simp [Try.f162]
  simp at hpre
  repeat' (first | omega | refine And.intro ?_ ?_ | intro _)
  all_goals grind
theorem c162_ok : c162.ok Try.prog := mkCon_ok fun ⟨a, b⟩ hpre => c162_pc a b hpre
/-- loop.example/g03007/laws.szEvent -/
noncomputable def c158 : Con := mkCon 158 false (α := TEvent × Int) (fun x => (fun (r : TEvent) (left : Int) => [encTEvent r, dI left]) x.1 x.2) (fun _ => []) (fun x => (fun (r : TEvent) (left : Int) => smEM r ∧ 0 ≤ left ∧ left ≤ 1099511627776) x.1 x.2) (fun x => (fun (r : TEvent) (left : Int) => (dI (szE r left) : D)) x.1 x.2) (fun x => (fun (r : TEvent) (left : Int) => []) x.1 x.2)
@[simp] theorem c158_f : c158.f = 158 := rfl
@[simp] theorem c158_own : c158.own = false := rfl
theorem c158_inj : ∀ u_ v_ : TEvent × Int, ((fun x => (fun (r : TEvent) (left : Int) => [encTEvent r, dI left]) x.1 x.2) u_).map nz = ((fun x => (fun (r : TEvent) (left : Int) => [encTEvent r, dI left]) x.1 x.2) v_).map nz → u_ = v_ := by
  intro u_ v_ h
  obtain ⟨⟨r_Kind, ⟨⟨r_Find_Thing_Id, r_Find_Thing_Kind, r_Find_Thing_Colour, r_Find_Thing_Size, r_Find_Thing_Worth⟩, r_Find_Place, r_Find_At, r_Find_Finder⟩, r_Marks, r_Id, r_Who, r_N, r_Bids⟩, left⟩ := u_
  obtain ⟨⟨r_Kind', ⟨⟨r_Find_Thing_Id', r_Find_Thing_Kind', r_Find_Thing_Colour', r_Find_Thing_Size', r_Find_Thing_Worth'⟩, r_Find_Place', r_Find_At', r_Find_Finder'⟩, r_Marks', r_Id', r_Who', r_N', r_Bids'⟩, left'⟩ := v_
  simp [nz_lit, nz1_lit, nz_agg, nz_sl, nz1_sl, encLTBid, encLTMark, encTEvent, encTFind, encTThing] at h
  first | (simp [h]; done) | (obtain ⟨⟩ := h; simp_all; done) | simp_all
@[simp] theorem c158_fn (r_Kind : Int) (r_Find_Thing_Id : Int) (r_Find_Thing_Kind : Int) (r_Find_Thing_Colour : Int) (r_Find_Thing_Size : Int) (r_Find_Thing_Worth : Int) (r_Find_Place : Int) (r_Find_At : Int) (r_Find_Finder : Int) (r_Marks : List TMark) (r_Id : Int) (r_Who : Int) (r_N : Int) (r_Bids : List TBid) (left : Int) : c158.fn [.agg [.lit (.int .i64 r_Kind), .lit (.int .i64 r_Find_Thing_Id), .lit (.int .i64 r_Find_Thing_Kind), .lit (.int .i64 r_Find_Thing_Colour), .lit (.int .i64 r_Find_Thing_Size), .lit (.int .i64 r_Find_Thing_Worth), .lit (.int .i64 r_Find_Place), .lit (.int .i64 r_Find_At), .lit (.int .i64 r_Find_Finder), .sl false 2 yTMark (ML encTMark r_Marks), .lit (.int .i64 r_Id), .lit (.int .i64 r_Who), .lit (.int .i64 r_N), .sl false 3 yTBid (ML encTBid r_Bids)], .lit (.int .i64 left)] [] = some ((fun (r : TEvent) (left : Int) => smEM r ∧ 0 ≤ left ∧ left ≤ 1099511627776) ⟨r_Kind, ⟨⟨r_Find_Thing_Id, r_Find_Thing_Kind, r_Find_Thing_Colour, r_Find_Thing_Size, r_Find_Thing_Worth⟩, r_Find_Place, r_Find_At, r_Find_Finder⟩, r_Marks, r_Id, r_Who, r_N, r_Bids⟩ left, (fun (r : TEvent) (left : Int) => (dI (szE r left) : D)) ⟨r_Kind, ⟨⟨r_Find_Thing_Id, r_Find_Thing_Kind, r_Find_Thing_Colour, r_Find_Thing_Size, r_Find_Thing_Worth⟩, r_Find_Place, r_Find_At, r_Find_Finder⟩, r_Marks, r_Id, r_Who, r_N, r_Bids⟩ left, (fun (r : TEvent) (left : Int) => []) ⟨r_Kind, ⟨⟨r_Find_Thing_Id, r_Find_Thing_Kind, r_Find_Thing_Colour, r_Find_Thing_Size, r_Find_Thing_Worth⟩, r_Find_Place, r_Find_At, r_Find_Finder⟩, r_Marks, r_Id, r_Who, r_N, r_Bids⟩ left) :=
  mkCon_fn (fun x y h _ => c158_inj x y h) ((⟨r_Kind, ⟨⟨r_Find_Thing_Id, r_Find_Thing_Kind, r_Find_Thing_Colour, r_Find_Thing_Size, r_Find_Thing_Worth⟩, r_Find_Place, r_Find_At, r_Find_Finder⟩, r_Marks, r_Id, r_Who, r_N, r_Bids⟩, left) : TEvent × Int) (by simp [nz, nz1, ML_nil, encLTBid, encLTMark, encTEvent, encTFind, encTThing]) rfl
theorem c158_pc (r : TEvent) (left : Int) (hpre : smEM r ∧ 0 ≤ left ∧ left ≤ 1099511627776) : PCo Try.prog 158 [encTEvent r, dI left] (Tab.of []) (dI (szE r left)) (Tab.of []) := by
  obtain ⟨r_Kind, ⟨⟨r_Find_Thing_Id, r_Find_Thing_Kind, r_Find_Thing_Colour, r_Find_Thing_Size, r_Find_Thing_Worth⟩, r_Find_Place, r_Find_At, r_Find_Finder⟩, r_Marks, r_Id, r_Who, r_N, r_Bids⟩ := r
  refine pco_of_run [] (E := ⟨[c61, c206], []⟩) (m := false) (base := 0) (Env.ok_cons c61_ok (Env.ok_cons c206_ok Env.ok_nil)) G_ok mix 300 6 Try.func158 (by kernel_rfl) rfl (by kernel_rfl) (by kernel_rfl) rfl ?_
  simp [Try.f158]
  simp at hpre
  repeat' (first | omega | refine And.intro ?_ ?_ | intro _)
  all_goals (simp only [szE]; (repeat' split) <;> omega)
theorem c158_ok : c158.ok Try.prog := mkCon_ok fun ⟨r, left⟩ hpre => c158_pc r left hpre
theorem szE_len {r : TEvent} {left : Int} (h : 0 ≤ szE r left) : r.Marks.length ≤ left ∧ r.Bids.length ≤ left ∧ szE r left ≤ left := by
  simp only [szE] at h ⊢
  split at h
  · omega
  · rename_i h2; rw [if_neg h2]; omega
theorem szE_le (r : TEvent) (q : Int) (h : 0 ≤ szE r q) : szE r q ≤ q := (szE_len h).2.2
/-- loop.example/g03007/laws.szEventS -/
noncomputable def c90 : Con := mkCon 90 false (α := (List TEvent) × Int) (fun x => (fun (l : List TEvent) (left : Int) => [encLTEvent l, dI left]) x.1 x.2) (fun _ => []) (fun x => (fun (l : List TEvent) (left : Int) => l.length ≤ maxLen ∧ (∀ x ∈ l, smEM x) ∧ 0 ≤ left ∧ left ≤ 1099511627776) x.1 x.2) (fun x => (fun (l : List TEvent) (left : Int) => (dI (szDeep szE l left) : D)) x.1 x.2) (fun x => (fun (l : List TEvent) (left : Int) => []) x.1 x.2)
@[simp] theorem c90_f : c90.f = 90 := rfl
@[simp] theorem c90_own : c90.own = false := rfl
theorem c90_inj : ∀ u_ v_ : (List TEvent) × Int, ((fun x => (fun (l : List TEvent) (left : Int) => [encLTEvent l, dI left]) x.1 x.2) u_).map nz = ((fun x => (fun (l : List TEvent) (left : Int) => [encLTEvent l, dI left]) x.1 x.2) v_).map nz → u_ = v_ := by
  intro u_ v_ h
  obtain ⟨l, left⟩ := u_
  obtain ⟨l', left'⟩ := v_
  simp [nz_lit, nz1_lit, nz_agg, nz_sl, nz1_sl, encLTEvent] at h
  first | (simp [h]; done) | (obtain ⟨⟩ := h; simp_all; done) | simp_all
@[simp] theorem c90_fn (l : List TEvent) (left : Int) : c90.fn [.sl false 14 yTEvent (ML encTEvent l), .lit (.int .i64 left)] [] = some ((fun (l : List TEvent) (left : Int) => l.length ≤ maxLen ∧ (∀ x ∈ l, smEM x) ∧ 0 ≤ left ∧ left ≤ 1099511627776) l left, (fun (l : List TEvent) (left : Int) => (dI (szDeep szE l left) : D)) l left, (fun (l : List TEvent) (left : Int) => []) l left) :=
  mkCon_fn (fun x y h _ => c90_inj x y h) ((l, left) : (List TEvent) × Int) (by simp [nz, nz1, ML_nil, encLTEvent]) rfl
@[simp] theorem c90_fn1 (s_l : Nat) (z_l : D) (left : Int) : c90.fn [.sl false s_l z_l [], .lit (.int .i64 left)] [] = some ((fun (l : List TEvent) (left : Int) => l.length ≤ maxLen ∧ (∀ x ∈ l, smEM x) ∧ 0 ≤ left ∧ left ≤ 1099511627776) [] left, (fun (l : List TEvent) (left : Int) => (dI (szDeep szE l left) : D)) [] left, (fun (l : List TEvent) (left : Int) => []) [] left) :=
  mkCon_fn (fun x y h _ => c90_inj x y h) (([], left) : (List TEvent) × Int) (by simp [nz, nz1, ML_nil, encLTEvent]) rfl
theorem c90_pc (l : List TEvent) (left : Int) (hpre : l.length ≤ maxLen ∧ (∀ x ∈ l, smEM x) ∧ 0 ≤ left ∧ left ≤ 1099511627776) : PCo Try.prog 90 [encLTEvent l, dI left] (Tab.of []) (dI (szDeep szE l left)) (Tab.of []) := by
  refine pco_of_run [] (E := ⟨[c158], []⟩) (m := false) (base := 0) (Env.ok_cons c158_ok Env.ok_nil) G_ok mix 300 6 Try.func90 (by kernel_rfl) rfl (by kernel_rfl) (by kernel_rfl) rfl ?_
  simp [Try.f90]
  obtain ⟨hp1, hp2, hp3, hp4⟩ := hpre
  simp [maxLen] at hp1
  refine ⟨by omega, fun h => ?_, fun hn => ?_⟩
  · rw [szDeep, if_pos h]
  have hd : szDeep szE l left = szRun szE (left - l.length) l := by rw [szDeep, if_neg (by omega)]
  refine loop_inv (fun p : Nat × Int => p.1 ≤ l.length ∧ 0 ≤ p.2 ∧ p.2 ≤ left ∧ szDeep szE l left = szRun szE p.2 (l.drop p.1)) (fun p => [(0, encLTEvent l), (1, dI p.2), (5, dI p.1)]) (fun _ => []) 1 (fun p => l.length - p.1) (0, left - l.length) 400 (by simp) (by simp [hd]; omega) (by simp) ?_
  intro ⟨p, q⟩ ⟨hp, hq1, hq2, hi⟩
  simp at hp hq1 hq2 hi ⊢
  refine ⟨fun hlt => ?_, fun hge => ?_⟩
  · rw [szRun_at (d := default) hlt] at hi
    have hx := hp2 _ (getD_mem (d := default) hlt)
    simp at hx
    have hle := szE_le (l[p]?.getD default) q
    refine ⟨⟨hlt, hx, hq1, by omega⟩, fun h => by rw [hi, if_pos h], fun h => ⟨by omega, ?_⟩⟩
    rw [if_neg (by omega)] at hi
    exact Again.mk (p + 1, szE (l[p]?.getD default) q) ⟨by simp; omega, by simp; omega, by have := hle (by omega); simp; omega, by simpa using hi⟩ (by simp) (by first | omega | (simp; omega))
  · rw [hi, szRun_end hge]
theorem c90_ok : c90.ok Try.prog := mkCon_ok fun ⟨l, left⟩ hpre => c90_pc l left hpre
/-- loop.example/g03007/laws.toEventS -/
noncomputable def c92 : Con := mkCon 92 false (α := (List TEvent)) (fun x => (fun (l : List TEvent) => [encLTEvent l]) x) (fun _ => []) (fun x => (fun (l : List TEvent) => l.length ≤ 1073741823 ∧ ∀ x ∈ l, smE x) x) (fun x => (fun (l : List TEvent) => (encLTEvent l : D)) x) (fun x => (fun (l : List TEvent) => []) x)
@[simp] theorem c92_f : c92.f = 92 := rfl
@[simp] theorem c92_own : c92.own = false := rfl
theorem c92_inj : ∀ u_ v_ : (List TEvent), ((fun x => (fun (l : List TEvent) => [encLTEvent l]) x) u_).map nz = ((fun x => (fun (l : List TEvent) => [encLTEvent l]) x) v_).map nz → u_ = v_ := by
  intro u_ v_ h
  obtain l := u_
  obtain l' := v_
  simp [nz_lit, nz1_lit, nz_agg, nz_sl, nz1_sl, encLTEvent] at h
  first | (simp [h]; done) | (obtain ⟨⟩ := h; simp_all; done) | simp_all
@[simp] theorem c92_fn (l : List TEvent) : c92.fn [.sl false 14 yTEvent (ML encTEvent l)] [] = some ((fun (l : List TEvent) => l.length ≤ 1073741823 ∧ ∀ x ∈ l, smE x) l, (fun (l : List TEvent) => (encLTEvent l : D)) l, (fun (l : List TEvent) => []) l) :=
  mkCon_fn (fun x y h _ => c92_inj x y h) (l : (List TEvent)) (by simp [nz, nz1, ML_nil, encLTEvent]) rfl
@[simp] theorem c92_fn1 (s_l : Nat) (z_l : D) : c92.fn [.sl false s_l z_l []] [] = some ((fun (l : List TEvent) => l.length ≤ 1073741823 ∧ ∀ x ∈ l, smE x) [], (fun (l : List TEvent) => (encLTEvent l : D)) [], (fun (l : List TEvent) => []) []) :=
  mkCon_fn (fun x y h _ => c92_inj x y h) ([] : (List TEvent)) (by simp [nz, nz1, ML_nil, encLTEvent]) rfl
theorem c92_pc (l : List TEvent) (hpre : l.length ≤ 1073741823 ∧ ∀ x ∈ l, smE x) : PCo Try.prog 92 [encLTEvent l] (Tab.of []) (encLTEvent l) (Tab.of []) := by
  refine pco_of_run [] (E := ⟨[c159], []⟩) (m := false) (base := 0) (Env.ok_cons c159_ok Env.ok_nil) G_ok mix 300 6 Try.func92 (by kernel_rfl) rfl (by kernel_rfl) (by kernel_rfl) rfl ?_
  simp [Try.f92]
  obtain ⟨hp1, hp2⟩ := hpre
  refine ⟨by omega, ?_⟩
  refine loop_inv (fun p : Nat => p ≤ l.length) (fun p => [(0, encLTEvent l), (3, .own (0, 1) 14 0 l.length), (4, dI p)]) (fun p => [((0, 1), .arr false 14 (.agg [dI 0, dI 0, dI 0, dI 0, dI 0, dI 0, dI 0, dI 0, dI 0, .sl true 0 .any [], dI 0, dI 0, dI 0, .sl true 0 .any []]) (ML encTEvent (l.take p) ++ List.replicate (l.length - p) (.agg [dI 0, dI 0, dI 0, dI 0, dI 0, dI 0, dI 0, dI 0, dI 0, .sl true 0 .any [], dI 0, dI 0, dI 0, .sl true 0 .any []])))]) 2 (fun p => l.length - p) 0 400 (by simp) (by simp) (by simp) ?_
  intro p hp
  by_cases hlt : p < l.length
  · have hx := hp2 _ (getD_mem (d := default) hlt)
    simp at hx
    have hg := fillZ (e := encTEvent) (z := (.agg [dI 0, dI 0, dI 0, dI 0, dI 0, dI 0, dI 0, dI 0, dI 0, .sl true 0 .any [], dI 0, dI 0, dI 0, .sl true 0 .any []])) (d := (.agg [dI 0, dI 0, dI 0, dI 0, dI 0, dI 0, dI 0, dI 0, dI 0, .sl true 0 .any [], dI 0, dI 0, dI 0, .sl true 0 .any []])) hlt
    have hs := fillS (e := encTEvent) (z := (.agg [dI 0, dI 0, dI 0, dI 0, dI 0, dI 0, dI 0, dI 0, dI 0, .sl true 0 .any [], dI 0, dI 0, dI 0, .sl true 0 .any []])) (d := default) hlt rfl
    simp at hs
    simp [hg]
    refine ⟨fun _ => ?_, fun h => absurd hlt (by omega)⟩
    repeat' (first | exact hx | omega | refine And.intro ?_ ?_ | intro _)
    refine Again.mk (p + 1) (by omega) ?_ (by first | omega | (simp; omega))
    simp [hs]
  · have : p = l.length := by omega
    subst this; simp
theorem c92_ok : c92.ok Try.prog := mkCon_ok fun l hpre => c92_pc l hpre
/-- loop.example/g03007/laws.eqEventS -/
noncomputable def c94 : Con := mkCon 94 false (α := (List TEvent) × (List TEvent)) (fun x => (fun (a : List TEvent) (b : List TEvent) => [encLTEvent a, encLTEvent b]) x.1 x.2) (fun _ => []) (fun x => (fun (a : List TEvent) (b : List TEvent) => a.length ≤ 1099511627776 ∧ b.length ≤ 1099511627776 ∧ (∀ x ∈ a, smE x) ∧ ∀ x ∈ b, smE x) x.1 x.2) (fun x => (fun (a : List TEvent) (b : List TEvent) => (dB (decide (a = b)) : D)) x.1 x.2) (fun x => (fun (a : List TEvent) (b : List TEvent) => []) x.1 x.2)
@[simp] theorem c94_f : c94.f = 94 := rfl
@[simp] theorem c94_own : c94.own = false := rfl
theorem c94_inj : ∀ u_ v_ : (List TEvent) × (List TEvent), ((fun x => (fun (a : List TEvent) (b : List TEvent) => [encLTEvent a, encLTEvent b]) x.1 x.2) u_).map nz = ((fun x => (fun (a : List TEvent) (b : List TEvent) => [encLTEvent a, encLTEvent b]) x.1 x.2) v_).map nz → u_ = v_ := by
  intro u_ v_ h
  obtain ⟨a, b⟩ := u_
  obtain ⟨a', b'⟩ := v_
  simp [nz_lit, nz1_lit, nz_agg, nz_sl, nz1_sl, encLTEvent] at h
  first | (simp [h]; done) | (obtain ⟨⟩ := h; simp_all; done) | simp_all
@[simp] theorem c94_fn (a : List TEvent) (b : List TEvent) : c94.fn [.sl false 14 yTEvent (ML encTEvent a), .sl false 14 yTEvent (ML encTEvent b)] [] = some ((fun (a : List TEvent) (b : List TEvent) => a.length ≤ 1099511627776 ∧ b.length ≤ 1099511627776 ∧ (∀ x ∈ a, smE x) ∧ ∀ x ∈ b, smE x) a b, (fun (a : List TEvent) (b : List TEvent) => (dB (decide (a = b)) : D)) a b, (fun (a : List TEvent) (b : List TEvent) => []) a b) :=
  mkCon_fn (fun x y h _ => c94_inj x y h) ((a, b) : (List TEvent) × (List TEvent)) (by simp [nz, nz1, ML_nil, encLTEvent]) rfl
@[simp] theorem c94_fn1 (s_a : Nat) (z_a : D) (b : List TEvent) : c94.fn [.sl false s_a z_a [], .sl false 14 yTEvent (ML encTEvent b)] [] = some ((fun (a : List TEvent) (b : List TEvent) => a.length ≤ 1099511627776 ∧ b.length ≤ 1099511627776 ∧ (∀ x ∈ a, smE x) ∧ ∀ x ∈ b, smE x) [] b, (fun (a : List TEvent) (b : List TEvent) => (dB (decide (a = b)) : D)) [] b, (fun (a : List TEvent) (b : List TEvent) => []) [] b) :=
  mkCon_fn (fun x y h _ => c94_inj x y h) (([], b) : (List TEvent) × (List TEvent)) (by simp [nz, nz1, ML_nil, encLTEvent]) rfl
@[simp] theorem c94_fn2 (a : List TEvent) (s_b : Nat) (z_b : D) : c94.fn [.sl false 14 yTEvent (ML encTEvent a), .sl false s_b z_b []] [] = some ((fun (a : List TEvent) (b : List TEvent) => a.length ≤ 1099511627776 ∧ b.length ≤ 1099511627776 ∧ (∀ x ∈ a, smE x) ∧ ∀ x ∈ b, smE x) a [], (fun (a : List TEvent) (b : List TEvent) => (dB (decide (a = b)) : D)) a [], (fun (a : List TEvent) (b : List TEvent) => []) a []) :=
  mkCon_fn (fun x y h _ => c94_inj x y h) ((a, []) : (List TEvent) × (List TEvent)) (by simp [nz, nz1, ML_nil, encLTEvent]) rfl
@[simp] theorem c94_fn3 (s_a : Nat) (z_a : D) (s_b : Nat) (z_b : D) : c94.fn [.sl false s_a z_a [], .sl false s_b z_b []] [] = some ((fun (a : List TEvent) (b : List TEvent) => a.length ≤ 1099511627776 ∧ b.length ≤ 1099511627776 ∧ (∀ x ∈ a, smE x) ∧ ∀ x ∈ b, smE x) [] [], (fun (a : List TEvent) (b : List TEvent) => (dB (decide (a = b)) : D)) [] [], (fun (a : List TEvent) (b : List TEvent) => []) [] []) :=
  mkCon_fn (fun x y h _ => c94_inj x y h) (([], []) : (List TEvent) × (List TEvent)) (by simp [nz, nz1, ML_nil, encLTEvent]) rfl
theorem c94_pc (a : List TEvent) (b : List TEvent) (hpre : a.length ≤ 1099511627776 ∧ b.length ≤ 1099511627776 ∧ (∀ x ∈ a, smE x) ∧ ∀ x ∈ b, smE x) : PCo Try.prog 94 [encLTEvent a, encLTEvent b] (Tab.of []) (dB (decide (a = b))) (Tab.of []) := by
  refine pco_of_run [] (E := ⟨[c162], []⟩) (m := false) (base := 0) (Env.ok_cons c162_ok Env.ok_nil) G_ok mix 300 6 Try.func94 (by kernel_rfl) rfl (by kernel_rfl) (by kernel_rfl) rfl ?_
  simp [Try.f94]
  obtain ⟨pre1, pre2, pre3, pre4⟩ := hpre
  refine ⟨fun h => ?_, fun h => by intro e; subst e; exact absurd rfl h⟩
  refine loop_inv (fun p : Nat => p ≤ a.length ∧ a.take p = b.take p) (fun p => [(0, encLTEvent a), (1, encLTEvent b), (5, dI p)]) (fun _ => []) 1 (fun p => a.length - p) 0 100 (by simp) (by simp) (by simp) ?_
  intro p ⟨hp, hi⟩
  simp
  refine ⟨fun hlt => ?_, fun hge => take_eq_full hi (by omega) (by omega)⟩
  have ha := pre3 _ (getD_mem (d := default) hlt)
  have hb := pre4 _ (getD_mem (d := default) (show p < b.length by omega))
  simp at ha hb
  refine ⟨⟨hlt, by omega, ha, hb⟩, fun h2 => ⟨by omega, Again.mk (p + 1) ⟨by omega, take_eq_step hi (by omega) (by omega) h2⟩ (by simp) (by first | omega | (simp; omega))⟩, fun h2 => by intro e; subst e; exact absurd rfl h2⟩
theorem c94_ok : c94.ok Try.prog := mkCon_ok fun ⟨a, b⟩ hpre => c94_pc a b hpre
theorem szES_ok {l : List TEvent} {left : Int} (h : 0 ≤ szDeep szE l left) : l.length ≤ left ∧ szDeep szE l left ≤ left ∧ ∀ x ∈ l, (x.Marks.length : Int) ≤ left ∧ x.Bids.length ≤ left :=
  szDeep_all (R := fun q x => (x.Marks.length : Int) ≤ q ∧ x.Bids.length ≤ q) (fun x q h => ⟨szE_le x q h, (szE_len h).1, (szE_len h).2.1⟩) (fun a b x h h2 => ⟨by omega, by omega⟩) h
def evIs (k : Int) (x : TEvent) : Bool := decide (x.Kind = k)
/-- loop.example/g03007/impl.CountEvents$1 -/
noncomputable def c161 : Con := mkCon 161 false (α := TEvent × Int) (fun x => (fun (x : TEvent) (k : Int) => ([encTEvent x, .el (dI k)] : List D)) x.1 x.2) (fun x => (fun (x : TEvent) (k : Int) => ([] : List (Nm × OO))) x.1 x.2) (fun x => (fun (x : TEvent) (k : Int) => True) x.1 x.2) (fun x => (fun (x : TEvent) (k : Int) => (dB (evIs k x) : D)) x.1 x.2) (fun x => (fun (x : TEvent) (k : Int) => ([] : List (Nm × OO))) x.1 x.2)
@[simp] theorem c161_f : c161.f = 161 := rfl
@[simp] theorem c161_own : c161.own = false := rfl
theorem c161_inj : ∀ u_ v_ : TEvent × Int, ((fun x => (fun (x : TEvent) (k : Int) => ([encTEvent x, .el (dI k)] : List D)) x.1 x.2) u_).map nz = ((fun x => (fun (x : TEvent) (k : Int) => ([encTEvent x, .el (dI k)] : List D)) x.1 x.2) v_).map nz → (fun x => (fun (x : TEvent) (k : Int) => ([] : List (Nm × OO))) x.1 x.2) u_ = (fun x => (fun (x : TEvent) (k : Int) => ([] : List (Nm × OO))) x.1 x.2) v_ → u_ = v_ := by
  intro u_ v_ h h2_
  obtain ⟨⟨x_Kind, ⟨⟨x_Find_Thing_Id, x_Find_Thing_Kind, x_Find_Thing_Colour, x_Find_Thing_Size, x_Find_Thing_Worth⟩, x_Find_Place, x_Find_At, x_Find_Finder⟩, x_Marks, x_Id, x_Who, x_N, x_Bids⟩, k⟩ := u_
  obtain ⟨⟨x_Kind', ⟨⟨x_Find_Thing_Id', x_Find_Thing_Kind', x_Find_Thing_Colour', x_Find_Thing_Size', x_Find_Thing_Worth'⟩, x_Find_Place', x_Find_At', x_Find_Finder'⟩, x_Marks', x_Id', x_Who', x_N', x_Bids'⟩, k'⟩ := v_
  simp [nz_lit, nz1_lit, nz_agg, nz_sl, nz1_sl, nz_sx, nz_el, nz1_el, nz_own, nz1_own, nz_ptr, nz_fn, nz_iface] at h h2_
  first | (simp [h, h2_]; done) | (obtain ⟨h3_, h4_⟩ := List.append_inj h2_ h.1; simp_all; done) | simp_all | grind
@[simp] theorem c161_fn (x_Kind : Int) (x_Find_Thing_Id : Int) (x_Find_Thing_Kind : Int) (x_Find_Thing_Colour : Int) (x_Find_Thing_Size : Int) (x_Find_Thing_Worth : Int) (x_Find_Place : Int) (x_Find_At : Int) (x_Find_Finder : Int) (x_Marks : List TMark) (x_Id : Int) (x_Who : Int) (x_N : Int) (x_Bids : List TBid) (k : Int) : c161.fn ([.agg [.lit (.int .i64 x_Kind), .lit (.int .i64 x_Find_Thing_Id), .lit (.int .i64 x_Find_Thing_Kind), .lit (.int .i64 x_Find_Thing_Colour), .lit (.int .i64 x_Find_Thing_Size), .lit (.int .i64 x_Find_Thing_Worth), .lit (.int .i64 x_Find_Place), .lit (.int .i64 x_Find_At), .lit (.int .i64 x_Find_Finder), .sl false 2 yTMark (ML encTMark x_Marks), .lit (.int .i64 x_Id), .lit (.int .i64 x_Who), .lit (.int .i64 x_N), .sl false 3 yTBid (ML encTBid x_Bids)], .el (dI k)]) ([]) = some (True, dB (evIs k (⟨x_Kind, ⟨⟨x_Find_Thing_Id, x_Find_Thing_Kind, x_Find_Thing_Colour, x_Find_Thing_Size, x_Find_Thing_Worth⟩, x_Find_Place, x_Find_At, x_Find_Finder⟩, x_Marks, x_Id, x_Who, x_N, x_Bids⟩ : TEvent)), []) :=
  mkCon_fn c161_inj ((⟨x_Kind, ⟨⟨x_Find_Thing_Id, x_Find_Thing_Kind, x_Find_Thing_Colour, x_Find_Thing_Size, x_Find_Thing_Worth⟩, x_Find_Place, x_Find_At, x_Find_Finder⟩, x_Marks, x_Id, x_Who, x_N, x_Bids⟩, k) : TEvent × Int) rfl rfl
theorem c161_pc (x : TEvent) (k : Int) : PCo Try.prog 161 ([encTEvent x, .el (dI k)]) (Tab.of ([])) (dB (evIs k x)) (Tab.of ([])) := by
  refine pco_of_run [] (E := ⟨[], []⟩) (m := false) (base := 0) Env.ok_nil G_ok mix 300 6 Try.func161 (by kernel_rfl) rfl (by kernel_rfl) (by kernel_rfl) rfl ?_
  simp [Try.f161]
  first | done | rfl
theorem c161_ok : c161.ok Try.prog := mkCon_ok fun ⟨x, k⟩ hpre => c161_pc x k
/-- loop.example/g03007/impl.countWhere[loop.example/g03007/impl.Event] -/
noncomputable def c160 : Con := mkCon 160 false (α := (List TEvent) × Int) (fun x => (fun (l : List TEvent) (k : Int) => ([encLTEvent l, .fn (.func 161) [] [.el (dI k)]] : List D)) x.1 x.2) (fun x => (fun (l : List TEvent) (k : Int) => ([] : List (Nm × OO))) x.1 x.2) (fun x => (fun (l : List TEvent) (k : Int) => l.length ≤ 1099511627776) x.1 x.2) (fun x => (fun (l : List TEvent) (k : Int) => (dI (l.countP (evIs k)) : D)) x.1 x.2) (fun x => (fun (l : List TEvent) (k : Int) => ([] : List (Nm × OO))) x.1 x.2)
@[simp] theorem c160_f : c160.f = 160 := rfl
@[simp] theorem c160_own : c160.own = false := rfl
theorem c160_inj : ∀ u_ v_ : (List TEvent) × Int, ((fun x => (fun (l : List TEvent) (k : Int) => ([encLTEvent l, .fn (.func 161) [] [.el (dI k)]] : List D)) x.1 x.2) u_).map nz = ((fun x => (fun (l : List TEvent) (k : Int) => ([encLTEvent l, .fn (.func 161) [] [.el (dI k)]] : List D)) x.1 x.2) v_).map nz → (fun x => (fun (l : List TEvent) (k : Int) => ([] : List (Nm × OO))) x.1 x.2) u_ = (fun x => (fun (l : List TEvent) (k : Int) => ([] : List (Nm × OO))) x.1 x.2) v_ → u_ = v_ := by
  intro u_ v_ h h2_
  obtain ⟨l, k⟩ := u_
  obtain ⟨l', k'⟩ := v_
  simp [nz_lit, nz1_lit, nz_agg, nz_sl, nz1_sl, nz_sx, nz_el, nz1_el, nz_own, nz1_own, nz_ptr, nz_fn, nz_iface] at h h2_
  first | (simp [h, h2_]; done) | (obtain ⟨h3_, h4_⟩ := List.append_inj h2_ h.1; simp_all; done) | simp_all | grind
@[simp] theorem c160_fn (l : List TEvent) (k : Int) : c160.fn ([(.sl false 14 yTEvent (ML encTEvent l)), .fn (.func 161) [] [.el (dI k)]]) ([]) = some (l.length ≤ 1099511627776, dI (l.countP (evIs k)), []) :=
  mkCon_fn c160_inj ((l, k) : (List TEvent) × Int) rfl rfl
theorem c160_pc (l : List TEvent) (k : Int) (hpre : l.length ≤ 1099511627776) : PCo Try.prog 160 ([encLTEvent l, .fn (.func 161) [] [.el (dI k)]]) (Tab.of ([])) (dI (l.countP (evIs k))) (Tab.of ([])) := by
  refine pco_of_run [] (E := ⟨[c161], []⟩) (m := false) (base := 0) (Env.ok_cons c161_ok Env.ok_nil) G_ok mix 300 6 Try.func160 (by kernel_rfl) rfl (by kernel_rfl) (by kernel_rfl) rfl ?_
  simp [Try.f160]
  refine loop_inv (fun p : Nat => p ≤ l.length) (fun p => [(1, .fn (.func 161) [] [.el (dI k)]), (5, dI ((l.take p).countP (evIs k))), (8, encLTEvent l), (9, dI l.length), (10, dI p)]) (fun _ => []) 1 (fun p => l.length - p) 0 400 (by simp) (by simp) (by simp) ?_
  intro p hp
  simp
  refine ⟨fun hlt => ?_, fun hge => ?_⟩
  · have hs := countP_at (want := evIs k) (d := default) hlt
    have hb := countP_take (want := evIs k) (l := l) (p := p)
    repeat' (first | omega | refine And.intro ?_ ?_ | intro _)
    all_goals (rename_i hw; refine Again.mk (p + 1) (by omega) (by simp [hs, hw]) (by first | omega | (simp; omega)))
  · rw [List.take_of_length_le hge]
theorem c160_ok : c160.ok Try.prog := mkCon_ok fun ⟨l, k⟩ hpre => c160_pc l k hpre
/-- loop.example/g03007/impl.CountEvents -/
noncomputable def c93 : Con := mkCon 93 false (α := (List TEvent) × Int) (fun x => (fun (l : List TEvent) (k : Int) => [encLTEvent l, dI k]) x.1 x.2) (fun _ => []) (fun x => (fun (l : List TEvent) (k : Int) => l.length ≤ 1099511627776) x.1 x.2) (fun x => (fun (l : List TEvent) (k : Int) => (dI (l.countP (evIs k)) : D)) x.1 x.2) (fun x => (fun (l : List TEvent) (k : Int) => []) x.1 x.2)
@[simp] theorem c93_f : c93.f = 93 := rfl
@[simp] theorem c93_own : c93.own = false := rfl
theorem c93_inj : ∀ u_ v_ : (List TEvent) × Int, ((fun x => (fun (l : List TEvent) (k : Int) => [encLTEvent l, dI k]) x.1 x.2) u_).map nz = ((fun x => (fun (l : List TEvent) (k : Int) => [encLTEvent l, dI k]) x.1 x.2) v_).map nz → u_ = v_ := by
  intro u_ v_ h
  obtain ⟨l, k⟩ := u_
  obtain ⟨l', k'⟩ := v_
  simp [nz_lit, nz1_lit, nz_agg, nz_sl, nz1_sl, encLTEvent] at h
  first | (simp [h]; done) | (obtain ⟨⟩ := h; simp_all; done) | simp_all
@[simp] theorem c93_fn (l : List TEvent) (k : Int) : c93.fn [.sl false 14 yTEvent (ML encTEvent l), .lit (.int .i64 k)] [] = some ((fun (l : List TEvent) (k : Int) => l.length ≤ 1099511627776) l k, (fun (l : List TEvent) (k : Int) => (dI (l.countP (evIs k)) : D)) l k, (fun (l : List TEvent) (k : Int) => []) l k) :=
  mkCon_fn (fun x y h _ => c93_inj x y h) ((l, k) : (List TEvent) × Int) (by simp [nz, nz1, ML_nil, encLTEvent]) rfl
@[simp] theorem c93_fn1 (s_l : Nat) (z_l : D) (k : Int) : c93.fn [.sl false s_l z_l [], .lit (.int .i64 k)] [] = some ((fun (l : List TEvent) (k : Int) => l.length ≤ 1099511627776) [] k, (fun (l : List TEvent) (k : Int) => (dI (l.countP (evIs k)) : D)) [] k, (fun (l : List TEvent) (k : Int) => []) [] k) :=
  mkCon_fn (fun x y h _ => c93_inj x y h) (([], k) : (List TEvent) × Int) (by simp [nz, nz1, ML_nil, encLTEvent]) rfl
theorem c93_pc (l : List TEvent) (k : Int) (hpre : l.length ≤ 1099511627776) : PCo Try.prog 93 [encLTEvent l, dI k] (Tab.of []) (dI (l.countP (evIs k))) (Tab.of []) := by
  refine pco_of_run [] (E := ⟨[c160, c161], []⟩) (m := false) (base := 0) (Env.ok_cons c160_ok (Env.ok_cons c161_ok Env.ok_nil)) G_ok mix 300 6 Try.func93 (by kernel_rfl) rfl (by kernel_rfl) (by kernel_rfl) rfl ?_
  simp [Try.f93]
  exact hpre
theorem c93_ok : c93.ok Try.prog := mkCon_ok fun ⟨l, k⟩ hpre => c93_pc l k hpre
/-- loop.example/g03007/spec.CountEvents -/
noncomputable def c91 : Con := mkCon 91 false (α := (List TEvent) × Int) (fun x => (fun (l : List TEvent) (k : Int) => [encLTEvent l, dI k]) x.1 x.2) (fun _ => []) (fun x => (fun (l : List TEvent) (k : Int) => l.length ≤ 1099511627776) x.1 x.2) (fun x => (fun (l : List TEvent) (k : Int) => (dI (l.countP (evIs k)) : D)) x.1 x.2) (fun x => (fun (l : List TEvent) (k : Int) => []) x.1 x.2)
@[simp] theorem c91_f : c91.f = 91 := rfl
@[simp] theorem c91_own : c91.own = false := rfl
theorem c91_inj : ∀ u_ v_ : (List TEvent) × Int, ((fun x => (fun (l : List TEvent) (k : Int) => [encLTEvent l, dI k]) x.1 x.2) u_).map nz = ((fun x => (fun (l : List TEvent) (k : Int) => [encLTEvent l, dI k]) x.1 x.2) v_).map nz → u_ = v_ := by
  intro u_ v_ h
  obtain ⟨l, k⟩ := u_
  obtain ⟨l', k'⟩ := v_
  simp [nz_lit, nz1_lit, nz_agg, nz_sl, nz1_sl, encLTEvent] at h
  first | (simp [h]; done) | (obtain ⟨⟩ := h; simp_all; done) | simp_all
@[simp] theorem c91_fn (l : List TEvent) (k : Int) : c91.fn [.sl false 14 yTEvent (ML encTEvent l), .lit (.int .i64 k)] [] = some ((fun (l : List TEvent) (k : Int) => l.length ≤ 1099511627776) l k, (fun (l : List TEvent) (k : Int) => (dI (l.countP (evIs k)) : D)) l k, (fun (l : List TEvent) (k : Int) => []) l k) :=
  mkCon_fn (fun x y h _ => c91_inj x y h) ((l, k) : (List TEvent) × Int) (by simp [nz, nz1, ML_nil, encLTEvent]) rfl
@[simp] theorem c91_fn1 (s_l : Nat) (z_l : D) (k : Int) : c91.fn [.sl false s_l z_l [], .lit (.int .i64 k)] [] = some ((fun (l : List TEvent) (k : Int) => l.length ≤ 1099511627776) [] k, (fun (l : List TEvent) (k : Int) => (dI (l.countP (evIs k)) : D)) [] k, (fun (l : List TEvent) (k : Int) => []) [] k) :=
  mkCon_fn (fun x y h _ => c91_inj x y h) (([], k) : (List TEvent) × Int) (by simp [nz, nz1, ML_nil, encLTEvent]) rfl
theorem c91_pc (l : List TEvent) (k : Int) (hpre : l.length ≤ 1099511627776) : PCo Try.prog 91 [encLTEvent l, dI k] (Tab.of []) (dI (l.countP (evIs k))) (Tab.of []) := by
  refine pco_of_run [] (E := ⟨[], []⟩) (m := false) (base := 0) Env.ok_nil G_ok mix 300 6 Try.func91 (by kernel_rfl) rfl (by kernel_rfl) (by kernel_rfl) rfl ?_
  simp [Try.f91]
  refine loop_inv (fun p : Nat => p ≤ l.length) (fun p => [(0, encLTEvent l), (1, dI k), (5, dI ((l.take p).countP (evIs k))), (6, dI p)]) (fun _ => []) 1 (fun p => l.length - p) 0 400 (by simp) (by simp) (by simp) ?_
  intro p hp
  simp
  refine ⟨fun hlt => ?_, fun hge => ?_⟩
  · have hs := countP_at (want := evIs k) (d := default) hlt
    have hb := countP_take (want := evIs k) (l := l) (p := p)
    repeat' (first | omega | refine And.intro ?_ ?_ | intro _)
    all_goals (rename_i hw; refine Again.mk (p + 1) (by omega) (by simp [hs, evIs, hw]) (by first | omega | (simp; omega)))
  · rw [List.take_of_length_le hge]
theorem c91_ok : c91.ok Try.prog := mkCon_ok fun ⟨l, k⟩ hpre => c91_pc l k hpre
theorem wfES {l : List TEvent} (h : wfLTEvent l) : l.length ≤ maxLen ∧ ∀ x ∈ l, x.Marks.length ≤ maxLen ∧ x.Bids.length ≤ maxLen := ⟨h.1, fun x hx => ⟨(h.2 x hx).2.2.1.1, (h.2 x hx).2.2.2.2.2.2.1⟩⟩
/-- loop.example/g03007/laws.FnExactCountEvents -/
theorem law19 (l : List TEvent) (wl : wfLTEvent l) (k : Int) (wk : inR .i64 k) : PCo Try.prog 19 [encLTEvent l, dI k] (Tab.of []) (dB true) (Tab.of []) := by
  refine pco_of_run [] (E := ⟨[c90, c91, c92, c93, c94], []⟩) (m := false) (base := 0) (Env.ok_cons c90_ok (Env.ok_cons c91_ok (Env.ok_cons c92_ok (Env.ok_cons c93_ok (Env.ok_cons c94_ok Env.ok_nil))))) G_ok mix 400 6 Try.func19 (by kernel_rfl) rfl (by kernel_rfl) (by kernel_rfl) rfl ?_
  simp (config := {maxSteps := 3000000}) [Try.f19]
  have h1 := wfES wl
  refine ⟨h1, fun h => ?_⟩
  have h2 := szES_ok h
  have h3 : ∀ x ∈ l, x.Marks.length ≤ 1099511627776 ∧ x.Bids.length ≤ 1099511627776 := fun x hx => by have := h2.2.2 x hx; omega
  repeat' (first | exact h3 | omega | refine And.intro ?_ ?_ | intro _)
theorem law19_pc (D0 : D) (h0 : Sh G 9 109 D0) (D1 : D) (h1 : Sh G 9 3 D1) : PC Try.prog 19 [D0, D1] (dB true) [] := by
  obtain ⟨l, rfl, wl⟩ := sh109 (n := 4) h0
  obtain ⟨k, rfl, wk⟩ := sh3 (n := 8) h1
  exact law19 l wl k wk

end Go.Proofs.YtmhbciaolpamaaaR
