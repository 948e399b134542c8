/- What a law is given, as typed data. -/
import Derived.Test.YtmhbciaolpamaaaRTA
namespace Go.Proofs.YtmhbciaolpamaaaR
open Go Go.Eng
set_option linter.unusedSimpArgs false
set_option linter.unusedVariables false
theorem sh2 {n : Nat} {d : D} (h : Sh G (n + 1) 2 d) : ∃ x : Int, d = dI x ∧ inR .i64 x := h
theorem sh3 {n : Nat} {d : D} (h : Sh G (n + 1) 3 d) : ∃ x : Int, d = dI x ∧ inR .i64 x := h
theorem sh4 {n : Nat} {d : D} (h : Sh G (n + 1) 4 d) : ∃ x : Bool, d = dB x ∧ True := by
  obtain ⟨b, rfl⟩ := h
  exact ⟨b, rfl, trivial⟩
theorem sh5 {n : Nat} {d : D} (h : Sh G (n + 1) 5 d) : ∃ x : Int, d = dU x ∧ inR .u8 x := h
theorem sh9 {n : Nat} {d : D} (h : Sh G (n + 1) 9 d) : ∃ x : ByteArray, d = dS x ∧ x.size ≤ maxLen := h
theorem sh12 {n : Nat} {d : D} (h : Sh G (n + 1) 12 d) : ∃ x : Int, d = (fun n => .lit (.int .u64 n)) x ∧ inR .u64 x := h
theorem sh21 {n : Nat} {d : D} (h : Sh G (n + 1) 21 d) : ∃ x : Int, d = (fun n => .lit (.int .i32 n)) x ∧ inR .i32 x := h
theorem sh25 {n : Nat} {d : D} (h : Sh G (n + 2) 25 d) : ∃ x : List Int, d = encLU x ∧ wfLU x := by
  obtain ⟨xs, rfl, hm, hx⟩ := h
  obtain ⟨l, rfl, hl⟩ := Sh_list (Γ := G) (n := n + 1) (e := 5) (fun d hd => sh5 (n := n + 0) hd) hx
  exact ⟨l, rfl, by simpa using hm, hl⟩
theorem sh40 {n : Nat} {d : D} (h : Sh G (n + 2) 40 d) : ∃ x : List Int, d = encLI x ∧ wfLI x := by
  obtain ⟨xs, rfl, hm, hx⟩ := h
  obtain ⟨l, rfl, hl⟩ := Sh_list (Γ := G) (n := n + 1) (e := 3) (fun d hd => sh3 (n := n + 0) hd) hx
  exact ⟨l, rfl, by simpa using hm, hl⟩
theorem sh42 {n : Nat} {d : D} (h : Sh G (n + 2) 42 d) : ∃ x : TSpan, d = encTSpan x ∧ wfTSpan x := by
  obtain ⟨cs, rfl, _, d0, r0, h0, _, rfl, _, d1, r1, h1, _, rfl, rfl⟩ := h
  obtain ⟨x0, rfl, w0⟩ := sh3 (n := n + 0) h0
  obtain ⟨x1, rfl, w1⟩ := sh3 (n := n + 0) h1
  exact ⟨⟨x0, x1⟩, rfl, w0, w1⟩
theorem sh44 {n : Nat} {d : D} (h : Sh G (n + 3) 44 d) : ∃ x : TReport, d = encTReport x ∧ wfTReport x := by
  obtain ⟨cs, rfl, _, d0, r0, h0, _, rfl, _, d1, r1, h1, _, rfl, _, d2, r2, h2, _, rfl, _, d3, r3, h3, _, rfl, _, d4, r4, h4, _, rfl, _, d5, r5, h5, _, rfl, _, d6, r6, h6, _, rfl, rfl⟩ := h
  obtain ⟨x0, rfl, w0⟩ := sh3 (n := n + 1) h0
  obtain ⟨x1, rfl, w1⟩ := sh3 (n := n + 1) h1
  obtain ⟨x2, rfl, w2⟩ := sh40 (n := n + 0) h2
  obtain ⟨x3, rfl, w3⟩ := sh3 (n := n + 1) h3
  obtain ⟨x4, rfl, w4⟩ := sh3 (n := n + 1) h4
  obtain ⟨x5, rfl, w5⟩ := sh40 (n := n + 0) h5
  obtain ⟨x6, rfl, w6⟩ := sh42 (n := n + 0) h6
  exact ⟨⟨x0, x1, x2, x3, x4, x5, x6⟩, rfl, w0, w1, w2, w3, w4, w5, w6⟩
theorem sh31 {n : Nat} {d : D} (h : Sh G (n + 4) 31 d) : ∃ x : List TReport, d = encLTReport x ∧ wfLTReport x := by
  obtain ⟨xs, rfl, hm, hx⟩ := h
  obtain ⟨l, rfl, hl⟩ := Sh_list (Γ := G) (n := n + 3) (e := 44) (fun d hd => sh44 (n := n + 0) hd) hx
  exact ⟨l, rfl, by simpa using hm, hl⟩
theorem sh48 {n : Nat} {d : D} (h : Sh G (n + 2) 48 d) : ∃ x : TSpan, d = encTSpan x ∧ wfTSpan x := by
  obtain ⟨cs, rfl, _, d0, r0, h0, _, rfl, _, d1, r1, h1, _, rfl, rfl⟩ := h
  obtain ⟨x0, rfl, w0⟩ := sh3 (n := n + 0) h0
  obtain ⟨x1, rfl, w1⟩ := sh3 (n := n + 0) h1
  exact ⟨⟨x0, x1⟩, rfl, w0, w1⟩
theorem sh50 {n : Nat} {d : D} (h : Sh G (n + 3) 50 d) : ∃ x : TReport, d = encTReport x ∧ wfTReport x := by
  obtain ⟨cs, rfl, _, d0, r0, h0, _, rfl, _, d1, r1, h1, _, rfl, _, d2, r2, h2, _, rfl, _, d3, r3, h3, _, rfl, _, d4, r4, h4, _, rfl, _, d5, r5, h5, _, rfl, _, d6, r6, h6, _, rfl, rfl⟩ := h
  obtain ⟨x0, rfl, w0⟩ := sh3 (n := n + 1) h0
  obtain ⟨x1, rfl, w1⟩ := sh3 (n := n + 1) h1
  obtain ⟨x2, rfl, w2⟩ := sh40 (n := n + 0) h2
  obtain ⟨x3, rfl, w3⟩ := sh3 (n := n + 1) h3
  obtain ⟨x4, rfl, w4⟩ := sh3 (n := n + 1) h4
  obtain ⟨x5, rfl, w5⟩ := sh40 (n := n + 0) h5
  obtain ⟨x6, rfl, w6⟩ := sh48 (n := n + 0) h6
  exact ⟨⟨x0, x1, x2, x3, x4, x5, x6⟩, rfl, w0, w1, w2, w3, w4, w5, w6⟩
theorem sh34 {n : Nat} {d : D} (h : Sh G (n + 4) 34 d) : ∃ x : List TReport, d = encLTReport x ∧ wfLTReport x := by
  obtain ⟨xs, rfl, hm, hx⟩ := h
  obtain ⟨l, rfl, hl⟩ := Sh_list (Γ := G) (n := n + 3) (e := 50) (fun d hd => sh50 (n := n + 0) hd) hx
  exact ⟨l, rfl, by simpa using hm, hl⟩
theorem sh41 {n : Nat} {d : D} (h : Sh G (n + 2) 41 d) : ∃ x : TSpan, d = encTSpan x ∧ wfTSpan x := by
  obtain ⟨cs, rfl, _, d0, r0, h0, _, rfl, _, d1, r1, h1, _, rfl, rfl⟩ := h
  obtain ⟨x0, rfl, w0⟩ := sh3 (n := n + 0) h0
  obtain ⟨x1, rfl, w1⟩ := sh3 (n := n + 0) h1
  exact ⟨⟨x0, x1⟩, rfl, w0, w1⟩
theorem sh43 {n : Nat} {d : D} (h : Sh G (n + 3) 43 d) : ∃ x : TReport, d = encTReport x ∧ wfTReport x := by
  obtain ⟨cs, rfl, _, d0, r0, h0, _, rfl, _, d1, r1, h1, _, rfl, _, d2, r2, h2, _, rfl, _, d3, r3, h3, _, rfl, _, d4, r4, h4, _, rfl, _, d5, r5, h5, _, rfl, _, d6, r6, h6, _, rfl, rfl⟩ := h
  obtain ⟨x0, rfl, w0⟩ := sh3 (n := n + 1) h0
  obtain ⟨x1, rfl, w1⟩ := sh3 (n := n + 1) h1
  obtain ⟨x2, rfl, w2⟩ := sh40 (n := n + 0) h2
  obtain ⟨x3, rfl, w3⟩ := sh3 (n := n + 1) h3
  obtain ⟨x4, rfl, w4⟩ := sh3 (n := n + 1) h4
  obtain ⟨x5, rfl, w5⟩ := sh40 (n := n + 0) h5
  obtain ⟨x6, rfl, w6⟩ := sh42 (n := n + 0) h6
  exact ⟨⟨x0, x1, x2, x3, x4, x5, x6⟩, rfl, w0, w1, w2, w3, w4, w5, w6⟩
theorem sh49 {n : Nat} {d : D} (h : Sh G (n + 3) 49 d) : ∃ x : TReport, d = encTReport x ∧ wfTReport x := by
  obtain ⟨cs, rfl, _, d0, r0, h0, _, rfl, _, d1, r1, h1, _, rfl, _, d2, r2, h2, _, rfl, _, d3, r3, h3, _, rfl, _, d4, r4, h4, _, rfl, _, d5, r5, h5, _, rfl, _, d6, r6, h6, _, rfl, rfl⟩ := h
  obtain ⟨x0, rfl, w0⟩ := sh3 (n := n + 1) h0
  obtain ⟨x1, rfl, w1⟩ := sh3 (n := n + 1) h1
  obtain ⟨x2, rfl, w2⟩ := sh40 (n := n + 0) h2
  obtain ⟨x3, rfl, w3⟩ := sh3 (n := n + 1) h3
  obtain ⟨x4, rfl, w4⟩ := sh3 (n := n + 1) h4
  obtain ⟨x5, rfl, w5⟩ := sh40 (n := n + 0) h5
  obtain ⟨x6, rfl, w6⟩ := sh48 (n := n + 0) h6
  exact ⟨⟨x0, x1, x2, x3, x4, x5, x6⟩, rfl, w0, w1, w2, w3, w4, w5, w6⟩
theorem sh66 {n : Nat} {d : D} (h : Sh G (n + 2) 66 d) : ∃ x : TThing, d = encTThing x ∧ wfTThing x := by
  obtain ⟨cs, rfl, _, d0, r0, h0, _, rfl, _, d1, r1, h1, _, rfl, _, d2, r2, h2, _, rfl, _, d3, r3, h3, _, rfl, _, d4, r4, h4, _, rfl, rfl⟩ := h
  obtain ⟨x0, rfl, w0⟩ := sh3 (n := n + 0) h0
  obtain ⟨x1, rfl, w1⟩ := sh3 (n := n + 0) h1
  obtain ⟨x2, rfl, w2⟩ := sh3 (n := n + 0) h2
  obtain ⟨x3, rfl, w3⟩ := sh3 (n := n + 0) h3
  obtain ⟨x4, rfl, w4⟩ := sh3 (n := n + 0) h4
  exact ⟨⟨x0, x1, x2, x3, x4⟩, rfl, w0, w1, w2, w3, w4⟩
theorem sh68 {n : Nat} {d : D} (h : Sh G (n + 3) 68 d) : ∃ x : TFind, d = encTFind x ∧ wfTFind x := by
  obtain ⟨cs, rfl, _, d0, r0, h0, _, rfl, _, d1, r1, h1, _, rfl, _, d2, r2, h2, _, rfl, _, d3, r3, h3, _, rfl, rfl⟩ := h
  obtain ⟨x0, rfl, w0⟩ := sh66 (n := n + 0) h0
  obtain ⟨x1, rfl, w1⟩ := sh3 (n := n + 1) h1
  obtain ⟨x2, rfl, w2⟩ := sh3 (n := n + 1) h2
  obtain ⟨x3, rfl, w3⟩ := sh3 (n := n + 1) h3
  exact ⟨⟨x0, x1, x2, x3⟩, rfl, w0, w1, w2, w3⟩
theorem sh55 {n : Nat} {d : D} (h : Sh G (n + 4) 55 d) : ∃ x : List TFind, d = encLTFind x ∧ wfLTFind x := by
  obtain ⟨xs, rfl, hm, hx⟩ := h
  obtain ⟨l, rfl, hl⟩ := Sh_list (Γ := G) (n := n + 3) (e := 68) (fun d hd => sh68 (n := n + 0) hd) hx
  exact ⟨l, rfl, by simpa using hm, hl⟩
theorem sh70 {n : Nat} {d : D} (h : Sh G (n + 2) 70 d) : ∃ x : TThing, d = encTThing x ∧ wfTThing x := by
  obtain ⟨cs, rfl, _, d0, r0, h0, _, rfl, _, d1, r1, h1, _, rfl, _, d2, r2, h2, _, rfl, _, d3, r3, h3, _, rfl, _, d4, r4, h4, _, rfl, rfl⟩ := h
  obtain ⟨x0, rfl, w0⟩ := sh3 (n := n + 0) h0
  obtain ⟨x1, rfl, w1⟩ := sh3 (n := n + 0) h1
  obtain ⟨x2, rfl, w2⟩ := sh3 (n := n + 0) h2
  obtain ⟨x3, rfl, w3⟩ := sh3 (n := n + 0) h3
  obtain ⟨x4, rfl, w4⟩ := sh3 (n := n + 0) h4
  exact ⟨⟨x0, x1, x2, x3, x4⟩, rfl, w0, w1, w2, w3, w4⟩
theorem sh72 {n : Nat} {d : D} (h : Sh G (n + 3) 72 d) : ∃ x : TFind, d = encTFind x ∧ wfTFind x := by
  obtain ⟨cs, rfl, _, d0, r0, h0, _, rfl, _, d1, r1, h1, _, rfl, _, d2, r2, h2, _, rfl, _, d3, r3, h3, _, rfl, rfl⟩ := h
  obtain ⟨x0, rfl, w0⟩ := sh70 (n := n + 0) h0
  obtain ⟨x1, rfl, w1⟩ := sh3 (n := n + 1) h1
  obtain ⟨x2, rfl, w2⟩ := sh3 (n := n + 1) h2
  obtain ⟨x3, rfl, w3⟩ := sh3 (n := n + 1) h3
  exact ⟨⟨x0, x1, x2, x3⟩, rfl, w0, w1, w2, w3⟩
theorem sh58 {n : Nat} {d : D} (h : Sh G (n + 4) 58 d) : ∃ x : List TFind, d = encLTFind x ∧ wfLTFind x := by
  obtain ⟨xs, rfl, hm, hx⟩ := h
  obtain ⟨l, rfl, hl⟩ := Sh_list (Γ := G) (n := n + 3) (e := 72) (fun d hd => sh72 (n := n + 0) hd) hx
  exact ⟨l, rfl, by simpa using hm, hl⟩
theorem sh65 {n : Nat} {d : D} (h : Sh G (n + 2) 65 d) : ∃ x : TThing, d = encTThing x ∧ wfTThing x := by
  obtain ⟨cs, rfl, _, d0, r0, h0, _, rfl, _, d1, r1, h1, _, rfl, _, d2, r2, h2, _, rfl, _, d3, r3, h3, _, rfl, _, d4, r4, h4, _, rfl, rfl⟩ := h
  obtain ⟨x0, rfl, w0⟩ := sh3 (n := n + 0) h0
  obtain ⟨x1, rfl, w1⟩ := sh3 (n := n + 0) h1
  obtain ⟨x2, rfl, w2⟩ := sh3 (n := n + 0) h2
  obtain ⟨x3, rfl, w3⟩ := sh3 (n := n + 0) h3
  obtain ⟨x4, rfl, w4⟩ := sh3 (n := n + 0) h4
  exact ⟨⟨x0, x1, x2, x3, x4⟩, rfl, w0, w1, w2, w3, w4⟩
theorem sh67 {n : Nat} {d : D} (h : Sh G (n + 3) 67 d) : ∃ x : TFind, d = encTFind x ∧ wfTFind x := by
  obtain ⟨cs, rfl, _, d0, r0, h0, _, rfl, _, d1, r1, h1, _, rfl, _, d2, r2, h2, _, rfl, _, d3, r3, h3, _, rfl, rfl⟩ := h
  obtain ⟨x0, rfl, w0⟩ := sh66 (n := n + 0) h0
  obtain ⟨x1, rfl, w1⟩ := sh3 (n := n + 1) h1
  obtain ⟨x2, rfl, w2⟩ := sh3 (n := n + 1) h2
  obtain ⟨x3, rfl, w3⟩ := sh3 (n := n + 1) h3
  exact ⟨⟨x0, x1, x2, x3⟩, rfl, w0, w1, w2, w3⟩
theorem sh71 {n : Nat} {d : D} (h : Sh G (n + 3) 71 d) : ∃ x : TFind, d = encTFind x ∧ wfTFind x := by
  obtain ⟨cs, rfl, _, d0, r0, h0, _, rfl, _, d1, r1, h1, _, rfl, _, d2, r2, h2, _, rfl, _, d3, r3, h3, _, rfl, rfl⟩ := h
  obtain ⟨x0, rfl, w0⟩ := sh70 (n := n + 0) h0
  obtain ⟨x1, rfl, w1⟩ := sh3 (n := n + 1) h1
  obtain ⟨x2, rfl, w2⟩ := sh3 (n := n + 1) h2
  obtain ⟨x3, rfl, w3⟩ := sh3 (n := n + 1) h3
  exact ⟨⟨x0, x1, x2, x3⟩, rfl, w0, w1, w2, w3⟩
theorem sh173 {n : Nat} {d : D} (h : Sh G (n + 2) 173 d) : ∃ x : TBid, d = encTBid x ∧ wfTBid x := by
  obtain ⟨cs, rfl, _, d0, r0, h0, _, rfl, _, d1, r1, h1, _, rfl, _, d2, r2, h2, _, rfl, rfl⟩ := h
  obtain ⟨x0, rfl, w0⟩ := sh3 (n := n + 0) h0
  obtain ⟨x1, rfl, w1⟩ := sh3 (n := n + 0) h1
  obtain ⟨x2, rfl, w2⟩ := sh3 (n := n + 0) h2
  exact ⟨⟨x0, x1, x2⟩, rfl, w0, w1, w2⟩
theorem sh76 {n : Nat} {d : D} (h : Sh G (n + 3) 76 d) : ∃ x : List TBid, d = encLTBid x ∧ wfLTBid x := by
  obtain ⟨xs, rfl, hm, hx⟩ := h
  obtain ⟨l, rfl, hl⟩ := Sh_list (Γ := G) (n := n + 2) (e := 173) (fun d hd => sh173 (n := n + 0) hd) hx
  exact ⟨l, rfl, by simpa using hm, hl⟩
theorem sh171 {n : Nat} {d : D} (h : Sh G (n + 2) 171 d) : ∃ x : TBid, d = encTBid x ∧ wfTBid x := by
  obtain ⟨cs, rfl, _, d0, r0, h0, _, rfl, _, d1, r1, h1, _, rfl, _, d2, r2, h2, _, rfl, rfl⟩ := h
  obtain ⟨x0, rfl, w0⟩ := sh3 (n := n + 0) h0
  obtain ⟨x1, rfl, w1⟩ := sh3 (n := n + 0) h1
  obtain ⟨x2, rfl, w2⟩ := sh3 (n := n + 0) h2
  exact ⟨⟨x0, x1, x2⟩, rfl, w0, w1, w2⟩
theorem sh78 {n : Nat} {d : D} (h : Sh G (n + 3) 78 d) : ∃ x : List TBid, d = encLTBid x ∧ wfLTBid x := by
  obtain ⟨xs, rfl, hm, hx⟩ := h
  obtain ⟨l, rfl, hl⟩ := Sh_list (Γ := G) (n := n + 2) (e := 171) (fun d hd => sh171 (n := n + 0) hd) hx
  exact ⟨l, rfl, by simpa using hm, hl⟩
theorem sh181 {n : Nat} {d : D} (h : Sh G (n + 2) 181 d) : ∃ x : TShare, d = encTShare x ∧ wfTShare x := by
  obtain ⟨cs, rfl, _, d0, r0, h0, _, rfl, _, d1, r1, h1, _, rfl, rfl⟩ := h
  obtain ⟨x0, rfl, w0⟩ := sh3 (n := n + 0) h0
  obtain ⟨x1, rfl, w1⟩ := sh3 (n := n + 0) h1
  exact ⟨⟨x0, x1⟩, rfl, w0, w1⟩
theorem sh87 {n : Nat} {d : D} (h : Sh G (n + 3) 87 d) : ∃ x : List TShare, d = encLTShare x ∧ wfLTShare x := by
  obtain ⟨xs, rfl, hm, hx⟩ := h
  obtain ⟨l, rfl, hl⟩ := Sh_list (Γ := G) (n := n + 2) (e := 181) (fun d hd => sh181 (n := n + 0) hd) hx
  exact ⟨l, rfl, by simpa using hm, hl⟩
theorem sh92 {n : Nat} {d : D} (h : Sh G (n + 3) 92 d) : ∃ x : TParcel, d = encTParcel x ∧ wfTParcel x := by
  obtain ⟨cs, rfl, _, d0, r0, h0, _, rfl, _, d1, r1, h1, _, rfl, _, d2, r2, h2, _, rfl, _, d3, r3, h3, _, rfl, rfl⟩ := h
  obtain ⟨x0, rfl, w0⟩ := sh3 (n := n + 1) h0
  obtain ⟨x1, rfl, w1⟩ := sh3 (n := n + 1) h1
  obtain ⟨x2, rfl, w2⟩ := sh40 (n := n + 0) h2
  obtain ⟨x3, rfl, w3⟩ := sh3 (n := n + 1) h3
  exact ⟨⟨x0, x1, x2, x3⟩, rfl, w0, w1, w2, w3⟩
theorem sh93 {n : Nat} {d : D} (h : Sh G (n + 3) 93 d) : ∃ x : TParcel, d = encTParcel x ∧ wfTParcel x := by
  obtain ⟨cs, rfl, _, d0, r0, h0, _, rfl, _, d1, r1, h1, _, rfl, _, d2, r2, h2, _, rfl, _, d3, r3, h3, _, rfl, rfl⟩ := h
  obtain ⟨x0, rfl, w0⟩ := sh3 (n := n + 1) h0
  obtain ⟨x1, rfl, w1⟩ := sh3 (n := n + 1) h1
  obtain ⟨x2, rfl, w2⟩ := sh40 (n := n + 0) h2
  obtain ⟨x3, rfl, w3⟩ := sh3 (n := n + 1) h3
  exact ⟨⟨x0, x1, x2, x3⟩, rfl, w0, w1, w2, w3⟩
theorem sh96 {n : Nat} {d : D} (h : Sh G (n + 3) 96 d) : ∃ x : TParcel, d = encTParcel x ∧ wfTParcel x := by
  obtain ⟨cs, rfl, _, d0, r0, h0, _, rfl, _, d1, r1, h1, _, rfl, _, d2, r2, h2, _, rfl, _, d3, r3, h3, _, rfl, rfl⟩ := h
  obtain ⟨x0, rfl, w0⟩ := sh3 (n := n + 1) h0
  obtain ⟨x1, rfl, w1⟩ := sh3 (n := n + 1) h1
  obtain ⟨x2, rfl, w2⟩ := sh40 (n := n + 0) h2
  obtain ⟨x3, rfl, w3⟩ := sh3 (n := n + 1) h3
  exact ⟨⟨x0, x1, x2, x3⟩, rfl, w0, w1, w2, w3⟩
theorem sh300 {n : Nat} {d : D} (h : Sh G (n + 2) 300 d) : ∃ x : TMark, d = encTMark x ∧ wfTMark x := by
  obtain ⟨cs, rfl, _, d0, r0, h0, _, rfl, _, d1, r1, h1, _, rfl, rfl⟩ := h
  obtain ⟨x0, rfl, w0⟩ := sh3 (n := n + 0) h0
  obtain ⟨x1, rfl, w1⟩ := sh3 (n := n + 0) h1
  exact ⟨⟨x0, x1⟩, rfl, w0, w1⟩
theorem sh189 {n : Nat} {d : D} (h : Sh G (n + 3) 189 d) : ∃ x : List TMark, d = encLTMark x ∧ wfLTMark x := by
  obtain ⟨xs, rfl, hm, hx⟩ := h
  obtain ⟨l, rfl, hl⟩ := Sh_list (Γ := G) (n := n + 2) (e := 300) (fun d hd => sh300 (n := n + 0) hd) hx
  exact ⟨l, rfl, by simpa using hm, hl⟩
theorem sh191 {n : Nat} {d : D} (h : Sh G (n + 4) 191 d) : ∃ x : TSecret, d = encTSecret x ∧ wfTSecret x := by
  obtain ⟨cs, rfl, _, d0, r0, h0, _, rfl, _, d1, r1, h1, _, rfl, _, d2, r2, h2, _, rfl, rfl⟩ := h
  obtain ⟨x0, rfl, w0⟩ := sh3 (n := n + 2) h0
  obtain ⟨x1, rfl, w1⟩ := sh189 (n := n + 0) h1
  obtain ⟨x2, rfl, w2⟩ := sh3 (n := n + 2) h2
  exact ⟨⟨x0, x1, x2⟩, rfl, w0, w1, w2⟩
theorem sh101 {n : Nat} {d : D} (h : Sh G (n + 5) 101 d) : ∃ x : List TSecret, d = encLTSecret x ∧ wfLTSecret x := by
  obtain ⟨xs, rfl, hm, hx⟩ := h
  obtain ⟨l, rfl, hl⟩ := Sh_list (Γ := G) (n := n + 4) (e := 191) (fun d hd => sh191 (n := n + 0) hd) hx
  exact ⟨l, rfl, by simpa using hm, hl⟩
theorem sh207 {n : Nat} {d : D} (h : Sh G (n + 2) 207 d) : ∃ x : TMark, d = encTMark x ∧ wfTMark x := by
  obtain ⟨cs, rfl, _, d0, r0, h0, _, rfl, _, d1, r1, h1, _, rfl, rfl⟩ := h
  obtain ⟨x0, rfl, w0⟩ := sh3 (n := n + 0) h0
  obtain ⟨x1, rfl, w1⟩ := sh3 (n := n + 0) h1
  exact ⟨⟨x0, x1⟩, rfl, w0, w1⟩
theorem sh192 {n : Nat} {d : D} (h : Sh G (n + 3) 192 d) : ∃ x : List TMark, d = encLTMark x ∧ wfLTMark x := by
  obtain ⟨xs, rfl, hm, hx⟩ := h
  obtain ⟨l, rfl, hl⟩ := Sh_list (Γ := G) (n := n + 2) (e := 207) (fun d hd => sh207 (n := n + 0) hd) hx
  exact ⟨l, rfl, by simpa using hm, hl⟩
theorem sh194 {n : Nat} {d : D} (h : Sh G (n + 4) 194 d) : ∃ x : TSecret, d = encTSecret x ∧ wfTSecret x := by
  obtain ⟨cs, rfl, _, d0, r0, h0, _, rfl, _, d1, r1, h1, _, rfl, _, d2, r2, h2, _, rfl, rfl⟩ := h
  obtain ⟨x0, rfl, w0⟩ := sh3 (n := n + 2) h0
  obtain ⟨x1, rfl, w1⟩ := sh192 (n := n + 0) h1
  obtain ⟨x2, rfl, w2⟩ := sh3 (n := n + 2) h2
  exact ⟨⟨x0, x1, x2⟩, rfl, w0, w1, w2⟩
theorem sh104 {n : Nat} {d : D} (h : Sh G (n + 5) 104 d) : ∃ x : List TSecret, d = encLTSecret x ∧ wfLTSecret x := by
  obtain ⟨xs, rfl, hm, hx⟩ := h
  obtain ⟨l, rfl, hl⟩ := Sh_list (Γ := G) (n := n + 4) (e := 194) (fun d hd => sh194 (n := n + 0) hd) hx
  exact ⟨l, rfl, by simpa using hm, hl⟩
theorem sh210 {n : Nat} {d : D} (h : Sh G (n + 4) 210 d) : ∃ x : TEvent, d = encTEvent x ∧ wfTEvent x := by
  obtain ⟨cs, rfl, _, d0, r0, h0, _, rfl, _, d1, r1, h1, _, rfl, _, d2, r2, h2, _, rfl, _, d3, r3, h3, _, rfl, _, d4, r4, h4, _, rfl, _, d5, r5, h5, _, rfl, _, d6, r6, h6, _, rfl, rfl⟩ := h
  obtain ⟨x0, rfl, w0⟩ := sh3 (n := n + 2) h0
  obtain ⟨x1, rfl, w1⟩ := sh68 (n := n + 0) h1
  obtain ⟨x2, rfl, w2⟩ := sh189 (n := n + 0) h2
  obtain ⟨x3, rfl, w3⟩ := sh3 (n := n + 2) h3
  obtain ⟨x4, rfl, w4⟩ := sh3 (n := n + 2) h4
  obtain ⟨x5, rfl, w5⟩ := sh3 (n := n + 2) h5
  obtain ⟨x6, rfl, w6⟩ := sh76 (n := n + 0) h6
  exact ⟨⟨x0, x1, x2, x3, x4, x5, x6⟩, rfl, w0, w1, w2, w3, w4, w5, w6⟩
theorem sh109 {n : Nat} {d : D} (h : Sh G (n + 5) 109 d) : ∃ x : List TEvent, d = encLTEvent x ∧ wfLTEvent x := by
  obtain ⟨xs, rfl, hm, hx⟩ := h
  obtain ⟨l, rfl, hl⟩ := Sh_list (Γ := G) (n := n + 4) (e := 210) (fun d hd => sh210 (n := n + 0) hd) hx
  exact ⟨l, rfl, by simpa using hm, hl⟩
theorem sh212 {n : Nat} {d : D} (h : Sh G (n + 4) 212 d) : ∃ x : TEvent, d = encTEvent x ∧ wfTEvent x := by
  obtain ⟨cs, rfl, _, d0, r0, h0, _, rfl, _, d1, r1, h1, _, rfl, _, d2, r2, h2, _, rfl, _, d3, r3, h3, _, rfl, _, d4, r4, h4, _, rfl, _, d5, r5, h5, _, rfl, _, d6, r6, h6, _, rfl, rfl⟩ := h
  obtain ⟨x0, rfl, w0⟩ := sh3 (n := n + 2) h0
  obtain ⟨x1, rfl, w1⟩ := sh72 (n := n + 0) h1
  obtain ⟨x2, rfl, w2⟩ := sh192 (n := n + 0) h2
  obtain ⟨x3, rfl, w3⟩ := sh3 (n := n + 2) h3
  obtain ⟨x4, rfl, w4⟩ := sh3 (n := n + 2) h4
  obtain ⟨x5, rfl, w5⟩ := sh3 (n := n + 2) h5
  obtain ⟨x6, rfl, w6⟩ := sh78 (n := n + 0) h6
  exact ⟨⟨x0, x1, x2, x3, x4, x5, x6⟩, rfl, w0, w1, w2, w3, w4, w5, w6⟩
theorem sh112 {n : Nat} {d : D} (h : Sh G (n + 5) 112 d) : ∃ x : List TEvent, d = encLTEvent x ∧ wfLTEvent x := by
  obtain ⟨xs, rfl, hm, hx⟩ := h
  obtain ⟨l, rfl, hl⟩ := Sh_list (Γ := G) (n := n + 4) (e := 212) (fun d hd => sh212 (n := n + 0) hd) hx
  exact ⟨l, rfl, by simpa using hm, hl⟩
theorem sh264 {n : Nat} {d : D} (h : Sh G (n + 2) 264 d) : ∃ x : TSlot, d = encTSlot x ∧ wfTSlot x := by
  obtain ⟨cs, rfl, _, d0, r0, h0, _, rfl, _, d1, r1, h1, _, rfl, _, d2, r2, h2, _, rfl, rfl⟩ := h
  obtain ⟨x0, rfl, w0⟩ := sh3 (n := n + 0) h0
  obtain ⟨x1, rfl, w1⟩ := sh3 (n := n + 0) h1
  obtain ⟨x2, rfl, w2⟩ := sh3 (n := n + 0) h2
  exact ⟨⟨x0, x1, x2⟩, rfl, w0, w1, w2⟩
theorem sh118 {n : Nat} {d : D} (h : Sh G (n + 3) 118 d) : ∃ x : List TSlot, d = encLTSlot x ∧ wfLTSlot x := by
  obtain ⟨xs, rfl, hm, hx⟩ := h
  obtain ⟨l, rfl, hl⟩ := Sh_list (Γ := G) (n := n + 2) (e := 264) (fun d hd => sh264 (n := n + 0) hd) hx
  exact ⟨l, rfl, by simpa using hm, hl⟩
theorem sh266 {n : Nat} {d : D} (h : Sh G (n + 2) 266 d) : ∃ x : TClaim, d = encTClaim x ∧ wfTClaim x := by
  obtain ⟨cs, rfl, _, d0, r0, h0, _, rfl, _, d1, r1, h1, _, rfl, _, d2, r2, h2, _, rfl, _, d3, r3, h3, _, rfl, _, d4, r4, h4, _, rfl, rfl⟩ := h
  obtain ⟨x0, rfl, w0⟩ := sh3 (n := n + 0) h0
  obtain ⟨x1, rfl, w1⟩ := sh3 (n := n + 0) h1
  obtain ⟨x2, rfl, w2⟩ := sh3 (n := n + 0) h2
  obtain ⟨x3, rfl, w3⟩ := sh3 (n := n + 0) h3
  obtain ⟨x4, rfl, w4⟩ := sh3 (n := n + 0) h4
  exact ⟨⟨x0, x1, x2, x3, x4⟩, rfl, w0, w1, w2, w3, w4⟩
theorem sh119 {n : Nat} {d : D} (h : Sh G (n + 3) 119 d) : ∃ x : List TClaim, d = encLTClaim x ∧ wfLTClaim x := by
  obtain ⟨xs, rfl, hm, hx⟩ := h
  obtain ⟨l, rfl, hl⟩ := Sh_list (Γ := G) (n := n + 2) (e := 266) (fun d hd => sh266 (n := n + 0) hd) hx
  exact ⟨l, rfl, by simpa using hm, hl⟩
theorem sh270 {n : Nat} {d : D} (h : Sh G (n + 2) 270 d) : ∃ x : TTrial, d = encTTrial x ∧ wfTTrial x := by
  obtain ⟨cs, rfl, _, d0, r0, h0, _, rfl, _, d1, r1, h1, _, rfl, _, d2, r2, h2, _, rfl, _, d3, r3, h3, _, rfl, rfl⟩ := h
  obtain ⟨x0, rfl, w0⟩ := sh3 (n := n + 0) h0
  obtain ⟨x1, rfl, w1⟩ := sh3 (n := n + 0) h1
  obtain ⟨x2, rfl, w2⟩ := sh3 (n := n + 0) h2
  obtain ⟨x3, rfl, w3⟩ := sh3 (n := n + 0) h3
  exact ⟨⟨x0, x1, x2, x3⟩, rfl, w0, w1, w2, w3⟩
theorem sh120 {n : Nat} {d : D} (h : Sh G (n + 3) 120 d) : ∃ x : List TTrial, d = encLTTrial x ∧ wfLTTrial x := by
  obtain ⟨xs, rfl, hm, hx⟩ := h
  obtain ⟨l, rfl, hl⟩ := Sh_list (Γ := G) (n := n + 2) (e := 270) (fun d hd => sh270 (n := n + 0) hd) hx
  exact ⟨l, rfl, by simpa using hm, hl⟩
theorem sh274 {n : Nat} {d : D} (h : Sh G (n + 2) 274 d) : ∃ x : THand, d = encTHand x ∧ wfTHand x := by
  obtain ⟨cs, rfl, _, d0, r0, h0, _, rfl, _, d1, r1, h1, _, rfl, _, d2, r2, h2, _, rfl, _, d3, r3, h3, _, rfl, _, d4, r4, h4, _, rfl, rfl⟩ := h
  obtain ⟨x0, rfl, w0⟩ := sh3 (n := n + 0) h0
  obtain ⟨x1, rfl, w1⟩ := sh3 (n := n + 0) h1
  obtain ⟨x2, rfl, w2⟩ := sh3 (n := n + 0) h2
  obtain ⟨x3, rfl, w3⟩ := sh3 (n := n + 0) h3
  obtain ⟨x4, rfl, w4⟩ := sh3 (n := n + 0) h4
  exact ⟨⟨x0, x1, x2, x3, x4⟩, rfl, w0, w1, w2, w3, w4⟩
theorem sh121 {n : Nat} {d : D} (h : Sh G (n + 3) 121 d) : ∃ x : List THand, d = encLTHand x ∧ wfLTHand x := by
  obtain ⟨xs, rfl, hm, hx⟩ := h
  obtain ⟨l, rfl, hl⟩ := Sh_list (Γ := G) (n := n + 2) (e := 274) (fun d hd => sh274 (n := n + 0) hd) hx
  exact ⟨l, rfl, by simpa using hm, hl⟩
theorem sh278 {n : Nat} {d : D} (h : Sh G (n + 2) 278 d) : ∃ x : TEntry, d = encTEntry x ∧ wfTEntry x := by
  obtain ⟨cs, rfl, _, d0, r0, h0, _, rfl, _, d1, r1, h1, _, rfl, _, d2, r2, h2, _, rfl, _, d3, r3, h3, _, rfl, rfl⟩ := h
  obtain ⟨x0, rfl, w0⟩ := sh3 (n := n + 0) h0
  obtain ⟨x1, rfl, w1⟩ := sh3 (n := n + 0) h1
  obtain ⟨x2, rfl, w2⟩ := sh3 (n := n + 0) h2
  obtain ⟨x3, rfl, w3⟩ := sh3 (n := n + 0) h3
  exact ⟨⟨x0, x1, x2, x3⟩, rfl, w0, w1, w2, w3⟩
theorem sh122 {n : Nat} {d : D} (h : Sh G (n + 3) 122 d) : ∃ x : List TEntry, d = encLTEntry x ∧ wfLTEntry x := by
  obtain ⟨xs, rfl, hm, hx⟩ := h
  obtain ⟨l, rfl, hl⟩ := Sh_list (Γ := G) (n := n + 2) (e := 278) (fun d hd => sh278 (n := n + 0) hd) hx
  exact ⟨l, rfl, by simpa using hm, hl⟩
theorem sh123 {n : Nat} {d : D} (h : Sh G (n + 6) 123 d) : ∃ x : THouse, d = encTHouse x ∧ wfTHouse x := by
  obtain ⟨cs, rfl, _, d0, r0, h0, _, rfl, _, d1, r1, h1, _, rfl, _, d2, r2, h2, _, rfl, _, d3, r3, h3, _, rfl, _, d4, r4, h4, _, rfl, _, d5, r5, h5, _, rfl, _, d6, r6, h6, _, rfl, _, d7, r7, h7, _, rfl, _, d8, r8, h8, _, rfl, rfl⟩ := h
  obtain ⟨x0, rfl, w0⟩ := sh3 (n := n + 4) h0
  obtain ⟨x1, rfl, w1⟩ := sh55 (n := n + 1) h1
  obtain ⟨x2, rfl, w2⟩ := sh101 (n := n + 0) h2
  obtain ⟨x3, rfl, w3⟩ := sh118 (n := n + 2) h3
  obtain ⟨x4, rfl, w4⟩ := sh119 (n := n + 2) h4
  obtain ⟨x5, rfl, w5⟩ := sh120 (n := n + 2) h5
  obtain ⟨x6, rfl, w6⟩ := sh121 (n := n + 2) h6
  obtain ⟨x7, rfl, w7⟩ := sh122 (n := n + 2) h7
  obtain ⟨x8, rfl, w8⟩ := sh3 (n := n + 4) h8
  exact ⟨⟨x0, x1, x2, x3, x4, x5, x6, x7, x8⟩, rfl, w0, w1, w2, w3, w4, w5, w6, w7, w8⟩
theorem sh124 {n : Nat} {d : D} (h : Sh G (n + 6) 124 d) : ∃ x : THouse, d = encTHouse x ∧ wfTHouse x := by
  obtain ⟨cs, rfl, _, d0, r0, h0, _, rfl, _, d1, r1, h1, _, rfl, _, d2, r2, h2, _, rfl, _, d3, r3, h3, _, rfl, _, d4, r4, h4, _, rfl, _, d5, r5, h5, _, rfl, _, d6, r6, h6, _, rfl, _, d7, r7, h7, _, rfl, _, d8, r8, h8, _, rfl, rfl⟩ := h
  obtain ⟨x0, rfl, w0⟩ := sh3 (n := n + 4) h0
  obtain ⟨x1, rfl, w1⟩ := sh55 (n := n + 1) h1
  obtain ⟨x2, rfl, w2⟩ := sh101 (n := n + 0) h2
  obtain ⟨x3, rfl, w3⟩ := sh118 (n := n + 2) h3
  obtain ⟨x4, rfl, w4⟩ := sh119 (n := n + 2) h4
  obtain ⟨x5, rfl, w5⟩ := sh120 (n := n + 2) h5
  obtain ⟨x6, rfl, w6⟩ := sh121 (n := n + 2) h6
  obtain ⟨x7, rfl, w7⟩ := sh122 (n := n + 2) h7
  obtain ⟨x8, rfl, w8⟩ := sh3 (n := n + 4) h8
  exact ⟨⟨x0, x1, x2, x3, x4, x5, x6, x7, x8⟩, rfl, w0, w1, w2, w3, w4, w5, w6, w7, w8⟩
theorem sh262 {n : Nat} {d : D} (h : Sh G (n + 2) 262 d) : ∃ x : TSlot, d = encTSlot x ∧ wfTSlot x := by
  obtain ⟨cs, rfl, _, d0, r0, h0, _, rfl, _, d1, r1, h1, _, rfl, _, d2, r2, h2, _, rfl, rfl⟩ := h
  obtain ⟨x0, rfl, w0⟩ := sh3 (n := n + 0) h0
  obtain ⟨x1, rfl, w1⟩ := sh3 (n := n + 0) h1
  obtain ⟨x2, rfl, w2⟩ := sh3 (n := n + 0) h2
  exact ⟨⟨x0, x1, x2⟩, rfl, w0, w1, w2⟩
theorem sh127 {n : Nat} {d : D} (h : Sh G (n + 3) 127 d) : ∃ x : List TSlot, d = encLTSlot x ∧ wfLTSlot x := by
  obtain ⟨xs, rfl, hm, hx⟩ := h
  obtain ⟨l, rfl, hl⟩ := Sh_list (Γ := G) (n := n + 2) (e := 262) (fun d hd => sh262 (n := n + 0) hd) hx
  exact ⟨l, rfl, by simpa using hm, hl⟩
theorem sh228 {n : Nat} {d : D} (h : Sh G (n + 2) 228 d) : ∃ x : TClaim, d = encTClaim x ∧ wfTClaim x := by
  obtain ⟨cs, rfl, _, d0, r0, h0, _, rfl, _, d1, r1, h1, _, rfl, _, d2, r2, h2, _, rfl, _, d3, r3, h3, _, rfl, _, d4, r4, h4, _, rfl, rfl⟩ := h
  obtain ⟨x0, rfl, w0⟩ := sh3 (n := n + 0) h0
  obtain ⟨x1, rfl, w1⟩ := sh3 (n := n + 0) h1
  obtain ⟨x2, rfl, w2⟩ := sh3 (n := n + 0) h2
  obtain ⟨x3, rfl, w3⟩ := sh3 (n := n + 0) h3
  obtain ⟨x4, rfl, w4⟩ := sh3 (n := n + 0) h4
  exact ⟨⟨x0, x1, x2, x3, x4⟩, rfl, w0, w1, w2, w3, w4⟩
theorem sh128 {n : Nat} {d : D} (h : Sh G (n + 3) 128 d) : ∃ x : List TClaim, d = encLTClaim x ∧ wfLTClaim x := by
  obtain ⟨xs, rfl, hm, hx⟩ := h
  obtain ⟨l, rfl, hl⟩ := Sh_list (Γ := G) (n := n + 2) (e := 228) (fun d hd => sh228 (n := n + 0) hd) hx
  exact ⟨l, rfl, by simpa using hm, hl⟩
theorem sh268 {n : Nat} {d : D} (h : Sh G (n + 2) 268 d) : ∃ x : TTrial, d = encTTrial x ∧ wfTTrial x := by
  obtain ⟨cs, rfl, _, d0, r0, h0, _, rfl, _, d1, r1, h1, _, rfl, _, d2, r2, h2, _, rfl, _, d3, r3, h3, _, rfl, rfl⟩ := h
  obtain ⟨x0, rfl, w0⟩ := sh3 (n := n + 0) h0
  obtain ⟨x1, rfl, w1⟩ := sh3 (n := n + 0) h1
  obtain ⟨x2, rfl, w2⟩ := sh3 (n := n + 0) h2
  obtain ⟨x3, rfl, w3⟩ := sh3 (n := n + 0) h3
  exact ⟨⟨x0, x1, x2, x3⟩, rfl, w0, w1, w2, w3⟩
theorem sh129 {n : Nat} {d : D} (h : Sh G (n + 3) 129 d) : ∃ x : List TTrial, d = encLTTrial x ∧ wfLTTrial x := by
  obtain ⟨xs, rfl, hm, hx⟩ := h
  obtain ⟨l, rfl, hl⟩ := Sh_list (Γ := G) (n := n + 2) (e := 268) (fun d hd => sh268 (n := n + 0) hd) hx
  exact ⟨l, rfl, by simpa using hm, hl⟩
theorem sh272 {n : Nat} {d : D} (h : Sh G (n + 2) 272 d) : ∃ x : THand, d = encTHand x ∧ wfTHand x := by
  obtain ⟨cs, rfl, _, d0, r0, h0, _, rfl, _, d1, r1, h1, _, rfl, _, d2, r2, h2, _, rfl, _, d3, r3, h3, _, rfl, _, d4, r4, h4, _, rfl, rfl⟩ := h
  obtain ⟨x0, rfl, w0⟩ := sh3 (n := n + 0) h0
  obtain ⟨x1, rfl, w1⟩ := sh3 (n := n + 0) h1
  obtain ⟨x2, rfl, w2⟩ := sh3 (n := n + 0) h2
  obtain ⟨x3, rfl, w3⟩ := sh3 (n := n + 0) h3
  obtain ⟨x4, rfl, w4⟩ := sh3 (n := n + 0) h4
  exact ⟨⟨x0, x1, x2, x3, x4⟩, rfl, w0, w1, w2, w3, w4⟩
theorem sh130 {n : Nat} {d : D} (h : Sh G (n + 3) 130 d) : ∃ x : List THand, d = encLTHand x ∧ wfLTHand x := by
  obtain ⟨xs, rfl, hm, hx⟩ := h
  obtain ⟨l, rfl, hl⟩ := Sh_list (Γ := G) (n := n + 2) (e := 272) (fun d hd => sh272 (n := n + 0) hd) hx
  exact ⟨l, rfl, by simpa using hm, hl⟩
theorem sh276 {n : Nat} {d : D} (h : Sh G (n + 2) 276 d) : ∃ x : TEntry, d = encTEntry x ∧ wfTEntry x := by
  obtain ⟨cs, rfl, _, d0, r0, h0, _, rfl, _, d1, r1, h1, _, rfl, _, d2, r2, h2, _, rfl, _, d3, r3, h3, _, rfl, rfl⟩ := h
  obtain ⟨x0, rfl, w0⟩ := sh3 (n := n + 0) h0
  obtain ⟨x1, rfl, w1⟩ := sh3 (n := n + 0) h1
  obtain ⟨x2, rfl, w2⟩ := sh3 (n := n + 0) h2
  obtain ⟨x3, rfl, w3⟩ := sh3 (n := n + 0) h3
  exact ⟨⟨x0, x1, x2, x3⟩, rfl, w0, w1, w2, w3⟩
theorem sh131 {n : Nat} {d : D} (h : Sh G (n + 3) 131 d) : ∃ x : List TEntry, d = encLTEntry x ∧ wfLTEntry x := by
  obtain ⟨xs, rfl, hm, hx⟩ := h
  obtain ⟨l, rfl, hl⟩ := Sh_list (Γ := G) (n := n + 2) (e := 276) (fun d hd => sh276 (n := n + 0) hd) hx
  exact ⟨l, rfl, by simpa using hm, hl⟩
theorem sh132 {n : Nat} {d : D} (h : Sh G (n + 6) 132 d) : ∃ x : THouse, d = encTHouse x ∧ wfTHouse x := by
  obtain ⟨cs, rfl, _, d0, r0, h0, _, rfl, _, d1, r1, h1, _, rfl, _, d2, r2, h2, _, rfl, _, d3, r3, h3, _, rfl, _, d4, r4, h4, _, rfl, _, d5, r5, h5, _, rfl, _, d6, r6, h6, _, rfl, _, d7, r7, h7, _, rfl, _, d8, r8, h8, _, rfl, rfl⟩ := h
  obtain ⟨x0, rfl, w0⟩ := sh3 (n := n + 4) h0
  obtain ⟨x1, rfl, w1⟩ := sh58 (n := n + 1) h1
  obtain ⟨x2, rfl, w2⟩ := sh104 (n := n + 0) h2
  obtain ⟨x3, rfl, w3⟩ := sh127 (n := n + 2) h3
  obtain ⟨x4, rfl, w4⟩ := sh128 (n := n + 2) h4
  obtain ⟨x5, rfl, w5⟩ := sh129 (n := n + 2) h5
  obtain ⟨x6, rfl, w6⟩ := sh130 (n := n + 2) h6
  obtain ⟨x7, rfl, w7⟩ := sh131 (n := n + 2) h7
  obtain ⟨x8, rfl, w8⟩ := sh3 (n := n + 4) h8
  exact ⟨⟨x0, x1, x2, x3, x4, x5, x6, x7, x8⟩, rfl, w0, w1, w2, w3, w4, w5, w6, w7, w8⟩
theorem sh133 {n : Nat} {d : D} (h : Sh G (n + 6) 133 d) : ∃ x : THouse, d = encTHouse x ∧ wfTHouse x := by
  obtain ⟨cs, rfl, _, d0, r0, h0, _, rfl, _, d1, r1, h1, _, rfl, _, d2, r2, h2, _, rfl, _, d3, r3, h3, _, rfl, _, d4, r4, h4, _, rfl, _, d5, r5, h5, _, rfl, _, d6, r6, h6, _, rfl, _, d7, r7, h7, _, rfl, _, d8, r8, h8, _, rfl, rfl⟩ := h
  obtain ⟨x0, rfl, w0⟩ := sh3 (n := n + 4) h0
  obtain ⟨x1, rfl, w1⟩ := sh58 (n := n + 1) h1
  obtain ⟨x2, rfl, w2⟩ := sh104 (n := n + 0) h2
  obtain ⟨x3, rfl, w3⟩ := sh127 (n := n + 2) h3
  obtain ⟨x4, rfl, w4⟩ := sh128 (n := n + 2) h4
  obtain ⟨x5, rfl, w5⟩ := sh129 (n := n + 2) h5
  obtain ⟨x6, rfl, w6⟩ := sh130 (n := n + 2) h6
  obtain ⟨x7, rfl, w7⟩ := sh131 (n := n + 2) h7
  obtain ⟨x8, rfl, w8⟩ := sh3 (n := n + 4) h8
  exact ⟨⟨x0, x1, x2, x3, x4, x5, x6, x7, x8⟩, rfl, w0, w1, w2, w3, w4, w5, w6, w7, w8⟩
theorem sh170 {n : Nat} {d : D} (h : Sh G (n + 2) 170 d) : ∃ x : TBid, d = encTBid x ∧ wfTBid x := by
  obtain ⟨cs, rfl, _, d0, r0, h0, _, rfl, _, d1, r1, h1, _, rfl, _, d2, r2, h2, _, rfl, rfl⟩ := h
  obtain ⟨x0, rfl, w0⟩ := sh3 (n := n + 0) h0
  obtain ⟨x1, rfl, w1⟩ := sh3 (n := n + 0) h1
  obtain ⟨x2, rfl, w2⟩ := sh3 (n := n + 0) h2
  exact ⟨⟨x0, x1, x2⟩, rfl, w0, w1, w2⟩
theorem sh183 {n : Nat} {d : D} (h : Sh G (n + 3) 183 d) : ∃ x : TPortion, d = encTPortion x ∧ wfTPortion x := by
  obtain ⟨cs, rfl, _, d0, r0, h0, _, rfl, _, d1, r1, h1, _, rfl, _, d2, r2, h2, _, rfl, rfl⟩ := h
  obtain ⟨x0, rfl, w0⟩ := sh181 (n := n + 0) h0
  obtain ⟨x1, rfl, w1⟩ := sh3 (n := n + 1) h1
  obtain ⟨x2, rfl, w2⟩ := sh3 (n := n + 1) h2
  exact ⟨⟨x0, x1, x2⟩, rfl, w0, w1, w2⟩
theorem sh179 {n : Nat} {d : D} (h : Sh G (n + 4) 179 d) : ∃ x : List TPortion, d = encLTPortion x ∧ wfLTPortion x := by
  obtain ⟨xs, rfl, hm, hx⟩ := h
  obtain ⟨l, rfl, hl⟩ := Sh_list (Γ := G) (n := n + 3) (e := 183) (fun d hd => sh183 (n := n + 0) hd) hx
  exact ⟨l, rfl, by simpa using hm, hl⟩
theorem sh180 {n : Nat} {d : D} (h : Sh G (n + 2) 180 d) : ∃ x : TShare, d = encTShare x ∧ wfTShare x := by
  obtain ⟨cs, rfl, _, d0, r0, h0, _, rfl, _, d1, r1, h1, _, rfl, rfl⟩ := h
  obtain ⟨x0, rfl, w0⟩ := sh3 (n := n + 0) h0
  obtain ⟨x1, rfl, w1⟩ := sh3 (n := n + 0) h1
  exact ⟨⟨x0, x1⟩, rfl, w0, w1⟩
theorem sh182 {n : Nat} {d : D} (h : Sh G (n + 3) 182 d) : ∃ x : TPortion, d = encTPortion x ∧ wfTPortion x := by
  obtain ⟨cs, rfl, _, d0, r0, h0, _, rfl, _, d1, r1, h1, _, rfl, _, d2, r2, h2, _, rfl, rfl⟩ := h
  obtain ⟨x0, rfl, w0⟩ := sh181 (n := n + 0) h0
  obtain ⟨x1, rfl, w1⟩ := sh3 (n := n + 1) h1
  obtain ⟨x2, rfl, w2⟩ := sh3 (n := n + 1) h2
  exact ⟨⟨x0, x1, x2⟩, rfl, w0, w1, w2⟩
theorem sh190 {n : Nat} {d : D} (h : Sh G (n + 4) 190 d) : ∃ x : TSecret, d = encTSecret x ∧ wfTSecret x := by
  obtain ⟨cs, rfl, _, d0, r0, h0, _, rfl, _, d1, r1, h1, _, rfl, _, d2, r2, h2, _, rfl, rfl⟩ := h
  obtain ⟨x0, rfl, w0⟩ := sh3 (n := n + 2) h0
  obtain ⟨x1, rfl, w1⟩ := sh189 (n := n + 0) h1
  obtain ⟨x2, rfl, w2⟩ := sh3 (n := n + 2) h2
  exact ⟨⟨x0, x1, x2⟩, rfl, w0, w1, w2⟩
theorem sh193 {n : Nat} {d : D} (h : Sh G (n + 4) 193 d) : ∃ x : TSecret, d = encTSecret x ∧ wfTSecret x := by
  obtain ⟨cs, rfl, _, d0, r0, h0, _, rfl, _, d1, r1, h1, _, rfl, _, d2, r2, h2, _, rfl, rfl⟩ := h
  obtain ⟨x0, rfl, w0⟩ := sh3 (n := n + 2) h0
  obtain ⟨x1, rfl, w1⟩ := sh192 (n := n + 0) h1
  obtain ⟨x2, rfl, w2⟩ := sh3 (n := n + 2) h2
  exact ⟨⟨x0, x1, x2⟩, rfl, w0, w1, w2⟩
theorem sh206 {n : Nat} {d : D} (h : Sh G (n + 2) 206 d) : ∃ x : TMark, d = encTMark x ∧ wfTMark x := by
  obtain ⟨cs, rfl, _, d0, r0, h0, _, rfl, _, d1, r1, h1, _, rfl, rfl⟩ := h
  obtain ⟨x0, rfl, w0⟩ := sh3 (n := n + 0) h0
  obtain ⟨x1, rfl, w1⟩ := sh3 (n := n + 0) h1
  exact ⟨⟨x0, x1⟩, rfl, w0, w1⟩
theorem sh209 {n : Nat} {d : D} (h : Sh G (n + 4) 209 d) : ∃ x : TEvent, d = encTEvent x ∧ wfTEvent x := by
  obtain ⟨cs, rfl, _, d0, r0, h0, _, rfl, _, d1, r1, h1, _, rfl, _, d2, r2, h2, _, rfl, _, d3, r3, h3, _, rfl, _, d4, r4, h4, _, rfl, _, d5, r5, h5, _, rfl, _, d6, r6, h6, _, rfl, rfl⟩ := h
  obtain ⟨x0, rfl, w0⟩ := sh3 (n := n + 2) h0
  obtain ⟨x1, rfl, w1⟩ := sh68 (n := n + 0) h1
  obtain ⟨x2, rfl, w2⟩ := sh189 (n := n + 0) h2
  obtain ⟨x3, rfl, w3⟩ := sh3 (n := n + 2) h3
  obtain ⟨x4, rfl, w4⟩ := sh3 (n := n + 2) h4
  obtain ⟨x5, rfl, w5⟩ := sh3 (n := n + 2) h5
  obtain ⟨x6, rfl, w6⟩ := sh76 (n := n + 0) h6
  exact ⟨⟨x0, x1, x2, x3, x4, x5, x6⟩, rfl, w0, w1, w2, w3, w4, w5, w6⟩
theorem sh211 {n : Nat} {d : D} (h : Sh G (n + 4) 211 d) : ∃ x : TEvent, d = encTEvent x ∧ wfTEvent x := by
  obtain ⟨cs, rfl, _, d0, r0, h0, _, rfl, _, d1, r1, h1, _, rfl, _, d2, r2, h2, _, rfl, _, d3, r3, h3, _, rfl, _, d4, r4, h4, _, rfl, _, d5, r5, h5, _, rfl, _, d6, r6, h6, _, rfl, rfl⟩ := h
  obtain ⟨x0, rfl, w0⟩ := sh3 (n := n + 2) h0
  obtain ⟨x1, rfl, w1⟩ := sh72 (n := n + 0) h1
  obtain ⟨x2, rfl, w2⟩ := sh192 (n := n + 0) h2
  obtain ⟨x3, rfl, w3⟩ := sh3 (n := n + 2) h3
  obtain ⟨x4, rfl, w4⟩ := sh3 (n := n + 2) h4
  obtain ⟨x5, rfl, w5⟩ := sh3 (n := n + 2) h5
  obtain ⟨x6, rfl, w6⟩ := sh78 (n := n + 0) h6
  exact ⟨⟨x0, x1, x2, x3, x4, x5, x6⟩, rfl, w0, w1, w2, w3, w4, w5, w6⟩
theorem sh218 {n : Nat} {d : D} (h : Sh G (n + 2) 218 d) : ∃ x : TPeak, d = encTPeak x ∧ wfTPeak x := by
  obtain ⟨cs, rfl, _, d0, r0, h0, _, rfl, _, d1, r1, h1, _, rfl, rfl⟩ := h
  obtain ⟨x0, rfl, w0⟩ := sh3 (n := n + 0) h0
  obtain ⟨x1, rfl, w1⟩ := sh3 (n := n + 0) h1
  exact ⟨⟨x0, x1⟩, rfl, w0, w1⟩
theorem sh219 {n : Nat} {d : D} (h : Sh G (n + 2) 219 d) : ∃ x : TPeak, d = encTPeak x ∧ wfTPeak x := by
  obtain ⟨cs, rfl, _, d0, r0, h0, _, rfl, _, d1, r1, h1, _, rfl, rfl⟩ := h
  obtain ⟨x0, rfl, w0⟩ := sh3 (n := n + 0) h0
  obtain ⟨x1, rfl, w1⟩ := sh3 (n := n + 0) h1
  exact ⟨⟨x0, x1⟩, rfl, w0, w1⟩
theorem sh227 {n : Nat} {d : D} (h : Sh G (n + 2) 227 d) : ∃ x : TClaim, d = encTClaim x ∧ wfTClaim x := by
  obtain ⟨cs, rfl, _, d0, r0, h0, _, rfl, _, d1, r1, h1, _, rfl, _, d2, r2, h2, _, rfl, _, d3, r3, h3, _, rfl, _, d4, r4, h4, _, rfl, rfl⟩ := h
  obtain ⟨x0, rfl, w0⟩ := sh3 (n := n + 0) h0
  obtain ⟨x1, rfl, w1⟩ := sh3 (n := n + 0) h1
  obtain ⟨x2, rfl, w2⟩ := sh3 (n := n + 0) h2
  obtain ⟨x3, rfl, w3⟩ := sh3 (n := n + 0) h3
  obtain ⟨x4, rfl, w4⟩ := sh3 (n := n + 0) h4
  exact ⟨⟨x0, x1, x2, x3, x4⟩, rfl, w0, w1, w2, w3, w4⟩
theorem sh248 {n : Nat} {d : D} (h : Sh G (n + 2) 248 d) : ∃ x : List Int, d = encLI x ∧ wfLI x := by
  obtain ⟨xs, rfl, hm, hx⟩ := h
  obtain ⟨l, rfl, hl⟩ := Sh_list (Γ := G) (n := n + 1) (e := 3) (fun d hd => sh3 (n := n + 0) hd) hx
  exact ⟨l, rfl, by simpa using hm, hl⟩
theorem sh256 {n : Nat} {d : D} (h : Sh G (n + 2) 256 d) : ∃ x : List ByteArray, d = encLS x ∧ wfLS x := by
  obtain ⟨xs, rfl, hm, hx⟩ := h
  obtain ⟨l, rfl, hl⟩ := Sh_list (Γ := G) (n := n + 1) (e := 9) (fun d hd => sh9 (n := n + 0) hd) hx
  exact ⟨l, rfl, by simpa using hm, hl⟩
theorem sh261 {n : Nat} {d : D} (h : Sh G (n + 2) 261 d) : ∃ x : TSlot, d = encTSlot x ∧ wfTSlot x := by
  obtain ⟨cs, rfl, _, d0, r0, h0, _, rfl, _, d1, r1, h1, _, rfl, _, d2, r2, h2, _, rfl, rfl⟩ := h
  obtain ⟨x0, rfl, w0⟩ := sh3 (n := n + 0) h0
  obtain ⟨x1, rfl, w1⟩ := sh3 (n := n + 0) h1
  obtain ⟨x2, rfl, w2⟩ := sh3 (n := n + 0) h2
  exact ⟨⟨x0, x1, x2⟩, rfl, w0, w1, w2⟩
theorem sh267 {n : Nat} {d : D} (h : Sh G (n + 2) 267 d) : ∃ x : TTrial, d = encTTrial x ∧ wfTTrial x := by
  obtain ⟨cs, rfl, _, d0, r0, h0, _, rfl, _, d1, r1, h1, _, rfl, _, d2, r2, h2, _, rfl, _, d3, r3, h3, _, rfl, rfl⟩ := h
  obtain ⟨x0, rfl, w0⟩ := sh3 (n := n + 0) h0
  obtain ⟨x1, rfl, w1⟩ := sh3 (n := n + 0) h1
  obtain ⟨x2, rfl, w2⟩ := sh3 (n := n + 0) h2
  obtain ⟨x3, rfl, w3⟩ := sh3 (n := n + 0) h3
  exact ⟨⟨x0, x1, x2, x3⟩, rfl, w0, w1, w2, w3⟩
theorem sh271 {n : Nat} {d : D} (h : Sh G (n + 2) 271 d) : ∃ x : THand, d = encTHand x ∧ wfTHand x := by
  obtain ⟨cs, rfl, _, d0, r0, h0, _, rfl, _, d1, r1, h1, _, rfl, _, d2, r2, h2, _, rfl, _, d3, r3, h3, _, rfl, _, d4, r4, h4, _, rfl, rfl⟩ := h
  obtain ⟨x0, rfl, w0⟩ := sh3 (n := n + 0) h0
  obtain ⟨x1, rfl, w1⟩ := sh3 (n := n + 0) h1
  obtain ⟨x2, rfl, w2⟩ := sh3 (n := n + 0) h2
  obtain ⟨x3, rfl, w3⟩ := sh3 (n := n + 0) h3
  obtain ⟨x4, rfl, w4⟩ := sh3 (n := n + 0) h4
  exact ⟨⟨x0, x1, x2, x3, x4⟩, rfl, w0, w1, w2, w3, w4⟩
theorem sh275 {n : Nat} {d : D} (h : Sh G (n + 2) 275 d) : ∃ x : TEntry, d = encTEntry x ∧ wfTEntry x := by
  obtain ⟨cs, rfl, _, d0, r0, h0, _, rfl, _, d1, r1, h1, _, rfl, _, d2, r2, h2, _, rfl, _, d3, r3, h3, _, rfl, rfl⟩ := h
  obtain ⟨x0, rfl, w0⟩ := sh3 (n := n + 0) h0
  obtain ⟨x1, rfl, w1⟩ := sh3 (n := n + 0) h1
  obtain ⟨x2, rfl, w2⟩ := sh3 (n := n + 0) h2
  obtain ⟨x3, rfl, w3⟩ := sh3 (n := n + 0) h3
  exact ⟨⟨x0, x1, x2, x3⟩, rfl, w0, w1, w2, w3⟩
theorem sh318 {n : Nat} {d : D} (h : Sh G (n + 1) 318 d) : ∃ x : Int, d = (fun n => .lit (.int .u32 n)) x ∧ inR .u32 x := h
theorem sh340 {n : Nat} {d : D} (h : Sh G (n + 2) 340 d) : ∃ x : TLikeness, d = encTLikeness x ∧ wfTLikeness x := by
  obtain ⟨cs, rfl, _, d0, r0, h0, _, rfl, _, d1, r1, h1, _, rfl, _, d2, r2, h2, _, rfl, _, d3, r3, h3, _, rfl, rfl⟩ := h
  obtain ⟨x0, rfl, w0⟩ := sh3 (n := n + 0) h0
  obtain ⟨x1, rfl, w1⟩ := sh3 (n := n + 0) h1
  obtain ⟨x2, rfl, w2⟩ := sh3 (n := n + 0) h2
  obtain ⟨x3, rfl, w3⟩ := sh3 (n := n + 0) h3
  exact ⟨⟨x0, x1, x2, x3⟩, rfl, w0, w1, w2, w3⟩
theorem sh341 {n : Nat} {d : D} (h : Sh G (n + 2) 341 d) : ∃ x : TLikeness, d = encTLikeness x ∧ wfTLikeness x := by
  obtain ⟨cs, rfl, _, d0, r0, h0, _, rfl, _, d1, r1, h1, _, rfl, _, d2, r2, h2, _, rfl, _, d3, r3, h3, _, rfl, rfl⟩ := h
  obtain ⟨x0, rfl, w0⟩ := sh3 (n := n + 0) h0
  obtain ⟨x1, rfl, w1⟩ := sh3 (n := n + 0) h1
  obtain ⟨x2, rfl, w2⟩ := sh3 (n := n + 0) h2
  obtain ⟨x3, rfl, w3⟩ := sh3 (n := n + 0) h3
  exact ⟨⟨x0, x1, x2, x3⟩, rfl, w0, w1, w2, w3⟩
end Go.Proofs.YtmhbciaolpamaaaR
