import PyProof.Rows.All
import VagraLineSpec
import VagraiSpec
import PySem.Str
import PyVagrai
import Wide.All
import OpenK.AllK
import Wide.FinOn
import Open.SpecLaws
import KE.OsGo
import HandS.ForSpec
import HandS.ClsMeth
import HandS.Iter
import PyProof.AutoSeq1
import HandS.ExcInit
import HandS.ExcSuper
import HandS.ExcField
import HandS.TryMany
import HandS.FStr
import HandS.Walk
import PySem.Challenge.RW_linecode_s01_answers
import HandS.TupAny
import HandS.Comp
import HandS.Dict
import HandS.WordsDict
import HandS.Wide
import HandS.WideBits
import HandS.Text
namespace Lc
open Vagraa (Frac frac)
/-! Exact fractions: what linecode.exact reckons is the specification's. Core Lean alone. -/
/-- a fraction in lowest terms -/
structure Low (a : Frac) : Prop where
  pos : 0 < a.den
  cop : Nat.Coprime a.num.natAbs a.den
theorem frac_one {n m : Int} {d e : Nat} (hd : 0 < d) (he : 0 < e) (hc : Nat.Coprime m.natAbs e) (h : m * d = n * e) : frac n d = ⟨m, e⟩ := by
  have hN : m.natAbs * d = n.natAbs * e := by
    have := congrArg Int.natAbs h
    simpa [Int.natAbs_mul] using this
  have h1 : e ∣ d := hc.symm.dvd_of_dvd_mul_left ⟨n.natAbs, by rw [hN, Nat.mul_comm]⟩
  obtain ⟨k, rfl⟩ := h1
  have hk : 0 < k := Nat.pos_of_ne_zero fun z => by subst z; simp at hd
  have hn : n = m * k := by
    have h2 : n * (e : Int) = (m * k) * e := by rw [← h]; push_cast; grind
    exact Int.eq_of_mul_eq_mul_right (by omega) h2
  subst hn
  have hg : Nat.gcd (m * (k : Int)).natAbs (e * k) = k := by
    rw [Int.natAbs_mul, Int.natAbs_natCast, Nat.gcd_mul_right, hc.gcd_eq_one, Nat.one_mul]
  unfold frac
  rw [if_neg (by omega), hg]
  congr 1
  · exact Int.mul_ediv_cancel _ (by omega)
  · exact Nat.mul_div_cancel _ hk
theorem frac_low (n : Int) {d : Nat} (hd : 0 < d) : Low (frac n d) := by
  unfold frac
  rw [if_neg (by omega)]
  have hg : 0 < Nat.gcd n.natAbs d := Nat.gcd_pos_of_pos_right _ hd
  refine ⟨Nat.div_pos (Nat.le_of_dvd hd (Nat.gcd_dvd_right ..)) hg, ?_⟩
  show Nat.Coprime (n / (Nat.gcd n.natAbs d : Nat)).natAbs (d / Nat.gcd n.natAbs d)
  have e : (n / ((Nat.gcd n.natAbs d : Nat) : Int)).natAbs = n.natAbs / Nat.gcd n.natAbs d := by
    rw [Int.natAbs_ediv_of_dvd]
    · simp
    · exact Int.ofNat_dvd_left.mpr (Nat.gcd_dvd_left ..)
  rw [e]
  exact Nat.coprime_div_gcd_div_gcd hg
theorem low_frac {a : Frac} (h : Low a) : frac a.num a.den = a := frac_one h.pos h.pos h.cop rfl
theorem neg_low {a : Frac} (h : Low a) : Low (Vagraa.neg a) := ⟨h.pos, by simpa [Vagraa.neg] using h.cop⟩
theorem zero_low : Low Vagraa.zero := ⟨by decide, by decide⟩
theorem add_low {a b : Frac} (ha : Low a) (hb : Low b) : Low (Vagraa.add a b) := frac_low _ (Nat.mul_pos ha.pos hb.pos)
theorem mul_low {a b : Frac} (ha : Low a) (hb : Low b) : Low (Vagraa.mul a b) := frac_low _ (Nat.mul_pos ha.pos hb.pos)
theorem inv_low {a : Frac} (h : Low a) (hz : a.num ≠ 0) : Low (Vagraa.inv a) := by
  unfold Vagraa.inv
  split
  · refine ⟨by show 0 < a.num.natAbs; omega, ?_⟩
    simpa using h.cop.symm
  · refine ⟨by simp only [if_neg hz]; omega, ?_⟩
    simpa only [Int.natAbs_natCast] using h.cop.symm
/-- plus, as the program reckons it -/
theorem add_is {a b : Frac} (ha : Low a) (hb : Low b) : ∀ (g p q r : Nat) (t : Int), g = Nat.gcd a.den b.den → p = a.den / g → q = b.den / g → t = a.num * q + b.num * p → r = Nat.gcd t.natAbs g →
    Vagraa.add a b = ⟨t / (r : Int), p * (b.den / r)⟩ := by
  intro g p q r t eg ep eq et er
  have hg : 0 < g := by rw [eg]; exact Nat.gcd_pos_of_pos_left _ ha.pos
  have ea : a.den = g * p := by rw [ep, Nat.mul_div_cancel' (by rw [eg]; exact Nat.gcd_dvd_left ..)]
  have eb : b.den = g * q := by rw [eq, Nat.mul_div_cancel' (by rw [eg]; exact Nat.gcd_dvd_right ..)]
  have hpq : Nat.Coprime p q := by rw [ep, eq, eg]; exact Nat.coprime_div_gcd_div_gcd (by rw [← eg]; exact hg)
  have hp : 0 < p := Nat.pos_of_ne_zero fun z => by have := ha.pos; rw [ea, z] at this; omega
  have hq : 0 < q := Nat.pos_of_ne_zero fun z => by have := hb.pos; rw [eb, z] at this; omega
  have hr : 0 < r := by rw [er]; exact Nat.gcd_pos_of_pos_right _ hg
  obtain ⟨G, eG⟩ : r ∣ g := by rw [er]; exact Nat.gcd_dvd_right ..
  obtain ⟨A, eA⟩ : (r : Int) ∣ t := Int.ofNat_dvd_left.mpr (by rw [er]; exact Nat.gcd_dvd_left ..)
  have hG : 0 < G := Nat.pos_of_ne_zero fun z => by rw [eG, z] at hg; omega
  have cAG : Nat.Coprime A.natAbs G := by
    have h1 : Nat.gcd (r * A.natAbs) (r * G) = r := by
      rw [← eG]; rw [eA, Int.natAbs_mul, Int.natAbs_natCast] at er; exact er.symm
    rw [Nat.gcd_mul_left] at h1
    exact Nat.eq_of_mul_eq_mul_left hr (by omega)
  have cap : Nat.Coprime a.num.natAbs p := ha.cop.coprime_dvd_right ⟨g, by rw [ea, Nat.mul_comm]⟩
  have cbq : Nat.Coprime b.num.natAbs q := hb.cop.coprime_dvd_right ⟨g, by rw [eb, Nat.mul_comm]⟩
  have ctp : Nat.Coprime t.natAbs p := by
    have h1 : Int.gcd (a.num * q) p = 1 := by
      show Nat.gcd (a.num * (q : Int)).natAbs (p : Int).natAbs = 1
      rw [Int.natAbs_mul, Int.natAbs_natCast, Int.natAbs_natCast]
      exact Nat.Coprime.mul_left cap hpq.symm
    have h2 : Int.gcd t p = 1 := by rw [et, Int.gcd_add_mul_right_left]; exact h1
    exact h2
  have ctq : Nat.Coprime t.natAbs q := by
    have h1 : Int.gcd (b.num * p) q = 1 := by
      show Nat.gcd (b.num * (p : Int)).natAbs (q : Int).natAbs = 1
      rw [Int.natAbs_mul, Int.natAbs_natCast, Int.natAbs_natCast]
      exact Nat.Coprime.mul_left cbq hpq
    have h2 : Int.gcd t q = 1 := by rw [et, Int.add_comm, Int.gcd_add_mul_right_left]; exact h1
    exact h2
  have dA : A.natAbs ∣ t.natAbs := ⟨r, by rw [eA, Int.natAbs_mul, Int.natAbs_natCast, Nat.mul_comm]⟩
  have e1 : t / (r : Int) = A := by rw [eA]; exact Int.mul_ediv_cancel_left _ (by omega)
  have e2 : b.den / r = G * q := by rw [eb, eG, Nat.mul_assoc]; exact Nat.mul_div_cancel_left _ hr
  rw [e1, e2]
  refine frac_one (Nat.mul_pos ha.pos hb.pos) (Nat.mul_pos hp (Nat.mul_pos hG hq)) ?_ ?_
  · exact Nat.Coprime.mul_right (ctp.coprime_dvd_left dA) (Nat.Coprime.mul_right cAG (ctq.coprime_dvd_left dA))
  · rw [ea, eb]
    have z : (g : Int) = r * G := by rw [eG]; push_cast; rfl
    have z2 : a.num * (q : Int) + b.num * (p : Int) = r * A := by rw [← et]; exact eA
    push_cast
    have z3 : (a.num * ((g : Int) * q) + b.num * ((g : Int) * p)) = g * (r * A) := by rw [← z2]; grind
    rw [z3, z]
    grind
/-- times, as the program reckons it -/
theorem mul_is {a b : Frac} (ha : Low a) (hb : Low b) : ∀ (f s : Nat), f = Nat.gcd a.num.natAbs b.den → s = Nat.gcd b.num.natAbs a.den →
    Vagraa.mul a b = ⟨a.num / (f : Int) * (b.num / (s : Int)), a.den / s * (b.den / f)⟩ := by
  intro f s ef es
  have hf : 0 < f := by rw [ef]; exact Nat.gcd_pos_of_pos_right _ hb.pos
  have hs : 0 < s := by rw [es]; exact Nat.gcd_pos_of_pos_right _ ha.pos
  obtain ⟨x, ex⟩ : (f : Int) ∣ a.num := Int.ofNat_dvd_left.mpr (by rw [ef]; exact Nat.gcd_dvd_left ..)
  obtain ⟨y, ey⟩ : f ∣ b.den := by rw [ef]; exact Nat.gcd_dvd_right ..
  obtain ⟨u, eu⟩ : (s : Int) ∣ b.num := Int.ofNat_dvd_left.mpr (by rw [es]; exact Nat.gcd_dvd_left ..)
  obtain ⟨v, ev⟩ : s ∣ a.den := by rw [es]; exact Nat.gcd_dvd_right ..
  have hy : 0 < y := Nat.pos_of_ne_zero fun z => by have := hb.pos; rw [ey, z] at this; omega
  have hv : 0 < v := Nat.pos_of_ne_zero fun z => by have := ha.pos; rw [ev, z] at this; omega
  have cxy : Nat.Coprime x.natAbs y := by
    have h1 : Nat.gcd (f * x.natAbs) (f * y) = f := by
      rw [← ey]; rw [ex, Int.natAbs_mul, Int.natAbs_natCast] at ef; exact ef.symm
    rw [Nat.gcd_mul_left] at h1
    exact Nat.eq_of_mul_eq_mul_left hf (by omega)
  have cuv : Nat.Coprime u.natAbs v := by
    have h1 : Nat.gcd (s * u.natAbs) (s * v) = s := by
      rw [← ev]; rw [eu, Int.natAbs_mul, Int.natAbs_natCast] at es; exact es.symm
    rw [Nat.gcd_mul_left] at h1
    exact Nat.eq_of_mul_eq_mul_left hs (by omega)
  have cxv : Nat.Coprime x.natAbs v := (ha.cop.coprime_dvd_left ⟨f, by rw [ex, Int.natAbs_mul, Int.natAbs_natCast, Nat.mul_comm]⟩).coprime_dvd_right ⟨s, by rw [ev, Nat.mul_comm]⟩
  have cuy : Nat.Coprime u.natAbs y := (hb.cop.coprime_dvd_left ⟨s, by rw [eu, Int.natAbs_mul, Int.natAbs_natCast, Nat.mul_comm]⟩).coprime_dvd_right ⟨f, by rw [ey, Nat.mul_comm]⟩
  have e1 : a.num / (f : Int) = x := by rw [ex]; exact Int.mul_ediv_cancel_left _ (by omega)
  have e2 : b.num / (s : Int) = u := by rw [eu]; exact Int.mul_ediv_cancel_left _ (by omega)
  have e3 : a.den / s = v := by rw [ev]; exact Nat.mul_div_cancel_left _ hs
  have e4 : b.den / f = y := by rw [ey]; exact Nat.mul_div_cancel_left _ hf
  rw [e1, e2, e3, e4]
  refine frac_one (Nat.mul_pos ha.pos hb.pos) (Nat.mul_pos hv hy) ?_ ?_
  · rw [Int.natAbs_mul]
    exact Nat.Coprime.mul_right (Nat.Coprime.mul_left cxv cuv) (Nat.Coprime.mul_left cxy cuy)
  · rw [ev, ey]
    push_cast
    rw [ex, eu]
    grind
end Lc
namespace Lc
open Vagraa (Frac frac zero)
open VagraLine (Line Code at_ well wellFrom)
open Vagrai (Prog Work)
/-! Programs whose lines use earlier lines and inputs that are there: what is made of one is one. -/
/-- a line that may stand at place i over n inputs -/
structure LineOk (n i : Nat) (l : Line) : Prop where
  uses : ∀ u ∈ l.uses, u < i
  inp : ∀ k, l = .input k → k < n
  low : ∀ a, l = .num a → Low a
def CodeOk (n : Nat) (c : Code) : Prop := ∀ i l, c[i]? = some l → LineOk n i l
structure ProgOk (p : Prog) : Prop where
  code : CodeOk p.inputs p.code
  outs : ∀ o ∈ p.outs, o < p.code.length
theorem LineOk.mono {n m i : Nat} {l : Line} (h : LineOk n i l) (hn : n ≤ m) : LineOk m i l := ⟨h.uses, fun k e => Nat.lt_of_lt_of_le (h.inp k e) hn, h.low⟩
theorem CodeOk.mono {n m : Nat} {c : Code} (h : CodeOk n c) (hn : n ≤ m) : CodeOk m c := fun i l e => (h i l e).mono hn
theorem CodeOk.nil (n : Nat) : CodeOk n [] := fun i l e => by simp at e
theorem CodeOk.snoc {n : Nat} {c : Code} {l : Line} (h : CodeOk n c) (hl : LineOk n c.length l) : CodeOk n (c ++ [l]) := fun i x e => by
  rw [List.getElem?_append] at e
  split at e
  · exact h i x e
  · rename_i hi
    have z : i - c.length = 0 := by
      cases k : i - c.length with
      | zero => rfl
      | succ m => rw [k] at e; simp at e
    rw [z] at e
    have e' : l = x := by simpa using e
    have : i = c.length := by omega
    subst e'; rw [this]; exact hl
theorem ok_input {n i k : Nat} (h : k < n) : LineOk n i (.input k) := ⟨fun u hu => by simp [Line.uses] at hu, (fun j e => by cases e; exact h), (fun a e => nomatch e)⟩
theorem ok_num {n i : Nat} {a : Frac} (h : Low a) : LineOk n i (.num a) := ⟨fun u hu => by simp [Line.uses] at hu, (fun j e => nomatch e), (fun b e => by cases e; exact h)⟩
theorem ok_add {n i a b : Nat} (ha : a < i) (hb : b < i) : LineOk n i (.add a b) := ⟨fun u hu => by simp [Line.uses] at hu; omega, (fun j e => nomatch e), (fun b e => nomatch e)⟩
theorem ok_sub {n i a b : Nat} (ha : a < i) (hb : b < i) : LineOk n i (.sub a b) := ⟨fun u hu => by simp [Line.uses] at hu; omega, (fun j e => nomatch e), (fun b e => nomatch e)⟩
theorem ok_mul {n i a b : Nat} (ha : a < i) (hb : b < i) : LineOk n i (.mul a b) := ⟨fun u hu => by simp [Line.uses] at hu; omega, (fun j e => nomatch e), (fun b e => nomatch e)⟩
theorem ok_div {n i a b : Nat} (ha : a < i) (hb : b < i) : LineOk n i (.div a b) := ⟨fun u hu => by simp [Line.uses] at hu; omega, (fun j e => nomatch e), (fun b e => nomatch e)⟩
theorem ok_neg {n i a : Nat} (ha : a < i) : LineOk n i (.neg a) := ⟨fun u hu => by simp [Line.uses] at hu; omega, (fun j e => nomatch e), (fun b e => nomatch e)⟩

/-! ### backwards -/
structure WorkOk (n L : Nat) (w : Work) : Prop where
  code : CodeOk n w.code
  len : w.bars.length = L
  le : L ≤ w.code.length
  bars : ∀ b, some b ∈ w.bars → b < w.code.length
section
variable {n L : Nat} {w : Work}
theorem put_len (w : Work) (l : Line) : (w.put l).2.code.length = w.code.length + 1 := by simp [Work.put]
theorem put_fst (w : Work) (l : Line) : (w.put l).1 = w.code.length := rfl
theorem put_bars (w : Work) (l : Line) : (w.put l).2.bars = w.bars := rfl
theorem WorkOk.put (h : WorkOk n L w) {l : Line} (hl : LineOk n w.code.length l) : WorkOk n L (w.put l).2 where
  code := h.code.snoc hl
  len := h.len
  le := by rw [put_len]; have := h.le; omega
  bars := fun b hb => by rw [put_len]; have := h.bars b hb; omega
theorem mem_set {α : Type} {l : List α} {i : Nat} {x y : α} (h : y ∈ l.set i x) : y = x ∨ y ∈ l := by
  rcases List.mem_or_eq_of_mem_set h with h | h
  · exact .inr h
  · exact .inl h
theorem getD_mem {l : List (Option Nat)} {i b : Nat} (h : l.getD i none = some b) : some b ∈ l := by
  rw [List.getD_eq_getElem?_getD] at h
  cases e : l[i]? with
  | none => rw [e] at h; simp at h
  | some x => rw [e] at h; simp at h; subst h; exact List.mem_of_getElem? e
theorem more_none {i x : Nat} (e : w.bars.getD i none = none) : w.more i x = { w with bars := w.bars.set i (some x) } := by unfold Work.more; rw [e]
theorem more_some {i x b : Nat} (e : w.bars.getD i none = some b) : w.more i x = ⟨w.code ++ [.add b x], w.bars.set i (some w.code.length)⟩ := by unfold Work.more; rw [e]; rfl
theorem WorkOk.more (h : WorkOk n L w) {i x : Nat} (hx : x < w.code.length) : WorkOk n L (w.more i x) ∧ w.code.length ≤ (w.more i x).code.length ∧ (w.more i x).code.length ≤ w.code.length + 1 := by
  cases e : w.bars.getD i none with
  | none =>
    rw [more_none e]
    refine ⟨⟨h.code, by simp [h.len], h.le, fun b hb => ?_⟩, by simp, by simp⟩
    rcases mem_set hb with z | z
    · cases z; exact hx
    · exact h.bars b z
  | some b =>
    have hb := h.bars b (getD_mem e)
    rw [more_some e]
    refine ⟨⟨h.code.snoc (ok_add hb hx), by simp [h.len], by simp; have := h.le; omega, fun c hc => ?_⟩, by simp, by simp⟩
    simp only [List.length_append, List.length_cons, List.length_nil]
    rcases mem_set hc with z | z
    · cases z; omega
    · have := h.bars c z; omega
theorem WorkOk.back (h : WorkOk n L w) {v b : Nat} {l : Line} (hv : v < L) (hb : b < w.code.length) (hl : LineOk n v l) : WorkOk n L (w.back v b l) ∧ w.code.length ≤ (w.back v b l).code.length ∧ (w.back v b l).code.length ≤ w.code.length + 5 := by
  have hle := h.le
  cases l with
  | input k => exact ⟨h, by simp [Work.back], by simp [Work.back]⟩
  | num a => exact ⟨h, by simp [Work.back], by simp [Work.back]⟩
  | add i j =>
    obtain ⟨h1, a1, b1⟩ := h.more (i := i) hb
    obtain ⟨h2, a2, b2⟩ := h1.more (i := j) (x := b) (by omega)
    exact ⟨h2, by show _ ≤ ((w.more i b).more j b).code.length; omega, by show ((w.more i b).more j b).code.length ≤ _; omega⟩
  | sub i j =>
    obtain ⟨h1, a1, b1⟩ := h.more (i := i) hb
    have h2 := h1.put (ok_neg (n := n) (show b < _ by omega))
    have l2 := put_len (w.more i b) (.neg b)
    obtain ⟨h3, a3, b3⟩ := h2.more (i := j) (x := ((w.more i b).put (.neg b)).1) (by rw [put_fst, l2]; omega)
    have e : w.back v b (.sub i j) = ((w.more i b).put (.neg b)).2.more j ((w.more i b).put (.neg b)).1 := rfl
    rw [e]
    exact ⟨h3, by omega, by omega⟩
  | mul i j =>
    have hi : i < v := hl.uses i (by simp [Line.uses])
    have hj : j < v := hl.uses j (by simp [Line.uses])
    have h1 := h.put (ok_mul (n := n) hb (show j < _ by omega))
    have l1 := put_len w (.mul b j)
    obtain ⟨h2, a2, b2⟩ := h1.more (i := i) (x := (w.put (.mul b j)).1) (by rw [put_fst, l1]; omega)
    have h3 := h2.put (ok_mul (n := n) (show b < _ by omega) (show i < _ by omega))
    have l3 := put_len ((w.put (.mul b j)).2.more i (w.put (.mul b j)).1) (.mul b i)
    obtain ⟨h4, a4, b4⟩ := h3.more (i := j) (x := (((w.put (.mul b j)).2.more i (w.put (.mul b j)).1).put (.mul b i)).1) (by rw [put_fst, l3]; omega)
    exact ⟨h4, Nat.le_trans (by omega) a4, Nat.le_trans b4 (by omega)⟩
  | div i j =>
    have hi : i < v := hl.uses i (by simp [Line.uses])
    have hj : j < v := hl.uses j (by simp [Line.uses])
    have h1 := h.put (ok_div (n := n) hb (show j < _ by omega))
    have l1 := put_len w (.div b j)
    obtain ⟨h2, a2, b2⟩ := h1.more (i := i) (x := (w.put (.div b j)).1) (by rw [put_fst, l1]; omega)
    generalize hw2 : (w.put (.div b j)).2.more i (w.put (.div b j)).1 = w2 at h2 a2 b2
    have h3 := h2.put (ok_mul (n := n) (show (w.put (.div b j)).1 < _ by rw [put_fst]; omega) (show v < _ by omega))
    have l3 := put_len w2 (.mul (w.put (.div b j)).1 v)
    generalize hw3 : (w2.put (.mul (w.put (.div b j)).1 v)).2 = w3 at h3 l3
    have h4 := h3.put (ok_neg (n := n) (show (w2.put (.mul (w.put (.div b j)).1 v)).1 < _ by rw [put_fst]; omega))
    have l4 := put_len w3 (.neg (w2.put (.mul (w.put (.div b j)).1 v)).1)
    obtain ⟨h5, a5, b5⟩ := h4.more (i := j) (x := (w3.put (.neg (w2.put (.mul (w.put (.div b j)).1 v)).1)).1) (by rw [put_fst, l4]; omega)
    have e : w.back v b (.div i j) = (w3.put (.neg (w2.put (.mul (w.put (.div b j)).1 v)).1)).2.more j (w3.put (.neg (w2.put (.mul (w.put (.div b j)).1 v)).1)).1 := by
      subst hw3 hw2; rfl
    rw [e]
    exact ⟨h5, Nat.le_trans (by omega) a5, Nat.le_trans b5 (by omega)⟩
  | neg i =>
    have h2 := h.put (ok_neg (n := n) hb)
    have l2 := put_len w (.neg b)
    obtain ⟨h3, a3, b3⟩ := h2.more (i := i) (x := (w.put (.neg b)).1) (by rw [put_fst, l2]; omega)
    have e : w.back v b (.neg i) = (w.put (.neg b)).2.more i (w.put (.neg b)).1 := rfl
    rw [e]
    exact ⟨h3, by omega, by omega⟩
/-- one turn of backAll -/
def passOn (c : Code) (i : Nat) (w : Work) : Work := match w.bars.getD i none with
  | none => w
  | some b => w.back i b (c.getD i (.num zero))
theorem backAll_succ (c : Code) (i : Nat) (w : Work) : Work.backAll c (i + 1) w = Work.backAll c i (passOn c i w) := rfl
theorem getD_some {c : Code} {i : Nat} (h : i < c.length) : c[i]? = some (c.getD i (.num zero)) := by
  rw [List.getD_eq_getElem?_getD, List.getElem?_eq_getElem h]; rfl
theorem WorkOk.pass {c : Code} (hc : CodeOk n c) (h : WorkOk n L w) {i : Nat} (hi : i < c.length) (hL : i < L) : WorkOk n L (passOn c i w) ∧ w.code.length ≤ (passOn c i w).code.length ∧ (passOn c i w).code.length ≤ w.code.length + 5 := by
  unfold passOn
  cases e : w.bars.getD i none with
  | none => exact ⟨h, Nat.le_refl _, Nat.le_add_right ..⟩
  | some b => exact h.back hL (h.bars b (getD_mem e)) (hc i _ (getD_some hi))
theorem WorkOk.backAll {c : Code} (hc : CodeOk n c) : ∀ (i : Nat) {w : Work}, WorkOk n L w → i ≤ c.length → i ≤ L → WorkOk n L (Work.backAll c i w) ∧ (Work.backAll c i w).code.length ≤ w.code.length + 5 * i
  | 0, w, h, _, _ => ⟨h, by simp [Work.backAll]⟩
  | i + 1, w, h, h1, h2 => by
    obtain ⟨a, _, b⟩ := h.pass hc (i := i) (by omega) (by omega)
    obtain ⟨d, e⟩ := WorkOk.backAll hc i a (by omega) (by omega)
    rw [backAll_succ]
    exact ⟨d, by omega⟩
theorem seeds_cons (k o : Nat) (r : List Nat) (w : Work) : Work.seeds k (o :: r) w = Work.seeds (k + 1) r ((w.put (.input k)).2.more o w.code.length) := rfl
theorem WorkOk.seeds : ∀ (outs : List Nat) (k : Nat) {w : Work}, WorkOk n L w → k + outs.length ≤ n → WorkOk n L (Work.seeds k outs w) ∧ (Work.seeds k outs w).code.length ≤ w.code.length + 2 * outs.length
  | [], k, w, h, _ => ⟨h, by simp [Work.seeds]⟩
  | o :: r, k, w, h, hk => by
    simp only [List.length_cons] at hk ⊢
    have h1 := h.put (ok_input (n := n) (i := w.code.length) (show k < n by omega))
    have l1 := put_len w (.input k)
    obtain ⟨h2, a, b⟩ := h1.more (i := o) (x := w.code.length) (by omega)
    obtain ⟨h3, e⟩ := WorkOk.seeds r (k + 1) h2 (by omega)
    rw [seeds_cons]
    exact ⟨h3, by omega⟩
/-- the sum of those taken, behind the first -/
def sumUp (a : Nat × Work) (r : List Nat) : Nat × Work := r.foldl (fun a y => a.2.put (.add a.1 y)) a
theorem WorkOk.sum : ∀ (r : List Nat) {x : Nat} {w : Work}, WorkOk n L w → x < w.code.length → (∀ y ∈ r, y < w.code.length) →
    WorkOk n L (sumUp (x, w) r).2 ∧ (sumUp (x, w) r).1 < (sumUp (x, w) r).2.code.length ∧ w.code.length ≤ (sumUp (x, w) r).2.code.length ∧ (sumUp (x, w) r).2.code.length ≤ w.code.length + r.length ∧ (sumUp (x, w) r).2.bars = w.bars
  | [], x, w, h, hx, _ => ⟨h, hx, Nat.le_refl _, by simp [sumUp], rfl⟩
  | y :: r, x, w, h, hx, hr => by
    have hy := hr y (List.mem_cons_self ..)
    have h1 := h.put (ok_add (n := n) hx hy)
    have l1 := put_len w (.add x y)
    obtain ⟨a, b, c, d, e⟩ := WorkOk.sum r (x := w.code.length) (w := (w.put (.add x y)).2) h1 (by omega) (fun z hz => by have := hr z (List.mem_cons_of_mem _ hz); omega)
    have q : sumUp (x, w) (y :: r) = sumUp (w.code.length, (w.put (.add x y)).2) r := rfl
    rw [q]
    refine ⟨a, b, by omega, by simp only [List.length_cons]; omega, e⟩
/-- the lines that hold the weights of those that are input k -/
def taken (c : Code) (k : Nat) (bars : List (Option Nat)) : List Nat := ((List.range c.length).filter fun i => decide (c.getD i (Line.num zero) = Line.input k)).filterMap fun i => bars.getD i none
def putSum (w : Work) (t : List Nat) : Nat × Work := match t with
  | [] => w.put (.num zero)
  | x :: r => sumUp (x, w) r
theorem gather_is (c : Code) (k : Nat) (w : Work) : w.gather c k = putSum w (taken c k w.bars) := rfl
theorem taken_mem {c : Code} {k : Nat} {bars : List (Option Nat)} {x : Nat} (h : x ∈ taken c k bars) : some x ∈ bars := by
  unfold taken at h
  rw [List.mem_filterMap] at h
  obtain ⟨i, _, e⟩ := h
  exact getD_mem e
theorem taken_len (c : Code) (k : Nat) (bars : List (Option Nat)) : (taken c k bars).length ≤ c.length := by
  unfold taken
  refine Nat.le_trans (List.length_filterMap_le ..) (Nat.le_trans (List.length_filter_le ..) ?_)
  simp
theorem WorkOk.putSum (h : WorkOk n L w) {t : List Nat} (ht : ∀ x ∈ t, x < w.code.length) :
    WorkOk n L (putSum w t).2 ∧ (putSum w t).1 < (putSum w t).2.code.length ∧ w.code.length ≤ (putSum w t).2.code.length ∧ (putSum w t).2.code.length ≤ w.code.length + (t.length + 1) ∧ (putSum w t).2.bars = w.bars := by
  cases t with
  | nil => exact ⟨h.put (ok_num zero_low), by show w.code.length < _; rw [show (Lc.putSum w []).2 = (w.put (.num zero)).2 from rfl, put_len]; omega, by rw [show (Lc.putSum w []).2 = (w.put (.num zero)).2 from rfl, put_len]; omega, by rw [show (Lc.putSum w []).2 = (w.put (.num zero)).2 from rfl, put_len]; simp, rfl⟩
  | cons x r =>
    obtain ⟨a, b, c, d, e⟩ := WorkOk.sum r h (ht x (List.mem_cons_self ..)) (fun y hy => ht y (List.mem_cons_of_mem _ hy))
    exact ⟨a, b, c, by simp only [List.length_cons]; exact Nat.le_trans d (by omega), e⟩
theorem gatherAll_cons (c : Code) (k : Nat) (r : List Nat) (w : Work) : Work.gatherAll c (k :: r) w = ((w.gather c k).1 :: (Work.gatherAll c r (w.gather c k).2).1, (Work.gatherAll c r (w.gather c k).2).2) := rfl
theorem WorkOk.gatherAll {c : Code} : ∀ (ks : List Nat) {w : Work}, WorkOk n L w → WorkOk n L (Work.gatherAll c ks w).2 ∧ (∀ o ∈ (Work.gatherAll c ks w).1, o < (Work.gatherAll c ks w).2.code.length) ∧ w.code.length ≤ (Work.gatherAll c ks w).2.code.length ∧
    (Work.gatherAll c ks w).2.code.length ≤ w.code.length + ks.length * (c.length + 1) ∧ (Work.gatherAll c ks w).1.length = ks.length
  | [], w, h => ⟨h, fun o ho => by simp [Work.gatherAll] at ho, Nat.le_refl _, by simp [Work.gatherAll], rfl⟩
  | k :: r, w, h => by
    obtain ⟨h1, a1, b1, c1, d1⟩ := h.putSum (t := taken c k w.bars) (fun x hx => h.bars x (taken_mem hx))
    have tl := taken_len c k w.bars
    rw [← gather_is] at h1 a1 b1 c1 d1
    obtain ⟨h2, a2, b2, c2, d2⟩ := WorkOk.gatherAll (c := c) r h1
    rw [gatherAll_cons]
    refine ⟨h2, fun o ho => ?_, Nat.le_trans b1 b2, ?_, by simp only [List.length_cons]; omega⟩
    · rcases List.mem_cons.mp ho with e | e
      · subst e; exact Nat.lt_of_lt_of_le a1 b2
      · exact a2 o e
    · simp only [List.length_cons, Nat.add_mul, Nat.one_mul] at *
      omega
end
theorem backward_ok {p : Prog} (h : ProgOk p) : ProgOk (Vagrai.backward p) ∧ (Vagrai.backward p).code.length ≤ 6 * p.code.length + 2 * p.outs.length + p.inputs * (p.code.length + 1) ∧ (Vagrai.backward p).outs.length = p.inputs := by
  have h0 : WorkOk (p.inputs + p.outs.length) p.code.length ⟨p.code, p.code.map fun _ => none⟩ :=
    ⟨h.code.mono (Nat.le_add_right ..), by simp, Nat.le_refl _, fun b hb => by simp at hb⟩
  obtain ⟨h1, a1⟩ := WorkOk.seeds p.outs p.inputs h0 (Nat.le_refl _)
  obtain ⟨h2, a2⟩ := WorkOk.backAll (h.code.mono (Nat.le_add_right ..)) p.code.length h1 (Nat.le_refl _) (Nat.le_refl _)
  obtain ⟨h3, a3, b3, c3, d3⟩ := WorkOk.gatherAll (c := p.code) (List.range p.inputs) h2
  refine ⟨⟨h3.code, a3⟩, ?_, ?_⟩
  · rw [List.length_range] at c3
    refine Nat.le_trans c3 ?_
    have a1' : (Work.seeds p.inputs p.outs ⟨p.code, p.code.map fun _ => none⟩).code.length ≤ p.code.length + 2 * p.outs.length := a1
    omega
  · rw [List.length_range] at d3; exact d3

/-! ### forwards -/
structure AheadOk (n : Nat) (ds : List (Option Nat)) (c : Code) : Prop where
  code : CodeOk n c
  ds : ∀ d, some d ∈ ds → d < c.length
theorem CodeOk.two {n : Nat} {c : Code} {l m : Line} (h : CodeOk n c) (hl : LineOk n c.length l) (hm : LineOk n (c.length + 1) m) : CodeOk n (c ++ [l, m]) := by
  have := (h.snoc hl).snoc (l := m) (by simpa using hm)
  simpa using this
theorem CodeOk.three {n : Nat} {c : Code} {l m k : Line} (h : CodeOk n c) (hl : LineOk n c.length l) (hm : LineOk n (c.length + 1) m) (hk : LineOk n (c.length + 2) k) : CodeOk n (c ++ [l, m, k]) := by
  have := (h.two hl hm).snoc (l := k) (by simpa using hk)
  simpa using this
theorem ahead_line {n v : Nat} {ds : List (Option Nat)} {c : Code} {l : Line} (h : AheadOk (2 * n) ds c) (hv : v < c.length) (hl : LineOk n v l) :
    CodeOk (2 * n) (Vagrai.aheadLine n v ds c l).2 ∧ c.length ≤ (Vagrai.aheadLine n v ds c l).2.length ∧ (Vagrai.aheadLine n v ds c l).2.length ≤ c.length + 3 ∧ (∀ d, (Vagrai.aheadLine n v ds c l).1 = some d → d < (Vagrai.aheadLine n v ds c l).2.length) := by
  have q : ∀ {i d : Nat}, ds.getD i none = some d → d < c.length := fun e => h.ds _ (getD_mem e)
  have none_ : ∀ {x : Option Nat × Code}, x = (none, c) → CodeOk (2 * n) x.2 ∧ c.length ≤ x.2.length ∧ x.2.length ≤ c.length + 3 ∧ (∀ d, x.1 = some d → d < x.2.length) := fun e => by
    subst e; exact ⟨h.code, Nat.le_refl _, Nat.le_add_right .., fun d e => nomatch e⟩
  have old : ∀ {x : Option Nat × Code} {a : Nat}, x = (some a, c) → a < c.length → CodeOk (2 * n) x.2 ∧ c.length ≤ x.2.length ∧ x.2.length ≤ c.length + 3 ∧ (∀ d, x.1 = some d → d < x.2.length) := fun e ha => by
    subst e; exact ⟨h.code, Nat.le_refl _, Nat.le_add_right .., fun d e => by cases e; exact ha⟩
  have one : ∀ {x : Option Nat × Code} {l : Line}, x = (some c.length, c ++ [l]) → LineOk (2 * n) c.length l → CodeOk (2 * n) x.2 ∧ c.length ≤ x.2.length ∧ x.2.length ≤ c.length + 3 ∧ (∀ d, x.1 = some d → d < x.2.length) := fun e hl => by
    subst e; exact ⟨h.code.snoc hl, by simp, by simp, fun d e => by cases e; simp⟩
  have three : ∀ {x : Option Nat × Code} {l m k : Line}, x = (some (c.length + 2), c ++ [l, m, k]) → LineOk (2 * n) c.length l → LineOk (2 * n) (c.length + 1) m → LineOk (2 * n) (c.length + 2) k → CodeOk (2 * n) x.2 ∧ c.length ≤ x.2.length ∧ x.2.length ≤ c.length + 3 ∧ (∀ d, x.1 = some d → d < x.2.length) := fun e h1 h2 h3 => by
    subst e; exact ⟨h.code.three h1 h2 h3, by simp, by simp, fun d e => by cases e; simp⟩
  cases l with
  | input k =>
    have := hl.inp k rfl
    exact one (l := .input (n + k)) (by simp only [Vagrai.aheadLine]) (ok_input (by omega))
  | num a => exact none_ (by simp only [Vagrai.aheadLine])
  | add i j =>
    cases e1 : ds.getD i none <;> cases e2 : ds.getD j none
    · exact none_ (by simp only [Vagrai.aheadLine, e1, e2])
    · exact old (by simp only [Vagrai.aheadLine, e1, e2]) (q e2)
    · exact old (by simp only [Vagrai.aheadLine, e1, e2]) (q e1)
    · exact one (by simp only [Vagrai.aheadLine, e1, e2]) (ok_add (q e1) (q e2))
  | sub i j =>
    cases e1 : ds.getD i none <;> cases e2 : ds.getD j none
    · exact none_ (by simp only [Vagrai.aheadLine, e1, e2])
    · exact one (by simp only [Vagrai.aheadLine, e1, e2]) (ok_neg (q e2))
    · exact old (by simp only [Vagrai.aheadLine, e1, e2]) (q e1)
    · exact one (by simp only [Vagrai.aheadLine, e1, e2]) (ok_sub (q e1) (q e2))
  | mul i j =>
    have hi : i < v := hl.uses i (by simp [Line.uses])
    have hj : j < v := hl.uses j (by simp [Line.uses])
    cases e1 : ds.getD i none <;> cases e2 : ds.getD j none
    · exact none_ (by simp only [Vagrai.aheadLine, e1, e2])
    · exact one (by simp only [Vagrai.aheadLine, e1, e2]; rfl) (ok_mul (by omega) (q e2))
    · exact one (by simp only [Vagrai.aheadLine, e1, e2]; rfl) (ok_mul (q e1) (by omega))
    · have := q e1; have := q e2
      exact three (by simp only [Vagrai.aheadLine, e1, e2]; rfl) (ok_mul (by omega) (by omega)) (ok_mul (by omega) (by omega)) (ok_add (by omega) (by omega))
  | div i j =>
    have hi : i < v := hl.uses i (by simp [Line.uses])
    have hj : j < v := hl.uses j (by simp [Line.uses])
    cases e1 : ds.getD i none <;> cases e2 : ds.getD j none
    · exact none_ (by simp only [Vagrai.aheadLine, e1, e2])
    · have := q e2
      exact three (by simp only [Vagrai.aheadLine, e1, e2]; rfl) (ok_mul (by omega) (by omega)) (ok_div (by omega) (by omega)) (ok_neg (by omega))
    · exact one (by simp only [Vagrai.aheadLine, e1, e2]; rfl) (ok_div (q e1) (by omega))
    · have := q e1; have := q e2
      exact three (by simp only [Vagrai.aheadLine, e1, e2]; rfl) (ok_mul (by omega) (by omega)) (ok_sub (by omega) (by omega)) (ok_div (by omega) (by omega))
  | neg i =>
    cases e1 : ds.getD i none
    · exact none_ (by simp only [Vagrai.aheadLine, e1])
    · exact one (by simp only [Vagrai.aheadLine, e1]) (ok_neg (q e1))
theorem aheadFrom_cons (n : Nat) (ds : List (Option Nat)) (c : Code) (l : Line) (r : Code) : Vagrai.aheadFrom n ds c (l :: r) = Vagrai.aheadFrom n (ds ++ [(Vagrai.aheadLine n ds.length ds c l).1]) (Vagrai.aheadLine n ds.length ds c l).2 r := rfl
theorem ahead_from {n : Nat} : ∀ (r : Code) {ds : List (Option Nat)} {c : Code}, AheadOk (2 * n) ds c → ds.length + r.length ≤ c.length → (∀ i l, r[i]? = some l → LineOk n (ds.length + i) l) →
    AheadOk (2 * n) (Vagrai.aheadFrom n ds c r).1 (Vagrai.aheadFrom n ds c r).2 ∧ c.length ≤ (Vagrai.aheadFrom n ds c r).2.length ∧ (Vagrai.aheadFrom n ds c r).2.length ≤ c.length + 3 * r.length ∧ (Vagrai.aheadFrom n ds c r).1.length = ds.length + r.length
  | [], ds, c, h, _, _ => ⟨h, Nat.le_refl _, by simp [Vagrai.aheadFrom], by simp [Vagrai.aheadFrom]⟩
  | l :: r, ds, c, h, hl, hr => by
    simp only [List.length_cons] at hl ⊢
    obtain ⟨h1, a1, b1, c1⟩ := ahead_line (v := ds.length) h (by omega) (hr 0 l rfl)
    rw [aheadFrom_cons]
    obtain ⟨h2, a2, b2, c2⟩ := ahead_from r (ds := ds ++ [(Vagrai.aheadLine n ds.length ds c l).1]) (c := (Vagrai.aheadLine n ds.length ds c l).2) ⟨h1, fun d hd => by
      rcases List.mem_append.mp hd with e | e
      · exact Nat.lt_of_lt_of_le (h.ds d e) a1
      · exact c1 d (List.mem_singleton.mp e).symm⟩ (by simp; omega) (fun i m e => by
        have := hr (i + 1) m (by simpa using e)
        simpa [Nat.add_assoc, Nat.add_comm 1 i] using this)
    exact ⟨h2, by omega, by omega, by rw [c2]; simp; omega⟩
def outPut (ds : List (Option Nat)) (o : Nat) (c : Code) : Nat × Code := match ds.getD o none with
  | some a => (a, c)
  | none => (c.length, c ++ [Line.num zero])
theorem aheadOuts_cons (ds : List (Option Nat)) (o : Nat) (r : List Nat) (c : Code) : Vagrai.aheadOuts ds (o :: r) c = ((outPut ds o c).1 :: (Vagrai.aheadOuts ds r (outPut ds o c).2).1, (Vagrai.aheadOuts ds r (outPut ds o c).2).2) := rfl
theorem ahead_outs {n : Nat} {ds : List (Option Nat)} : ∀ (r : List Nat) {c : Code}, AheadOk n ds c → CodeOk n (Vagrai.aheadOuts ds r c).2 ∧ (∀ o ∈ (Vagrai.aheadOuts ds r c).1, o < (Vagrai.aheadOuts ds r c).2.length) ∧ c.length ≤ (Vagrai.aheadOuts ds r c).2.length ∧ (Vagrai.aheadOuts ds r c).2.length ≤ c.length + r.length ∧ (Vagrai.aheadOuts ds r c).1.length = r.length
  | [], c, h => ⟨h.code, fun o ho => by simp [Vagrai.aheadOuts] at ho, Nat.le_refl _, by simp [Vagrai.aheadOuts], rfl⟩
  | o :: r, c, h => by
    rw [aheadOuts_cons]
    have key : AheadOk n ds (outPut ds o c).2 ∧ (outPut ds o c).1 < (outPut ds o c).2.length ∧ c.length ≤ (outPut ds o c).2.length ∧ (outPut ds o c).2.length ≤ c.length + 1 := by
      unfold outPut
      cases e : ds.getD o none with
      | some a => exact ⟨h, h.ds a (getD_mem e), Nat.le_refl _, Nat.le_succ _⟩
      | none => exact ⟨⟨h.code.snoc (ok_num zero_low), fun d hd => by have := h.ds d hd; simp; omega⟩, by simp, by simp, by simp⟩
    obtain ⟨k1, k2, k3, k4⟩ := key
    obtain ⟨h2, a2, b2, c2, d2⟩ := ahead_outs r k1
    refine ⟨h2, fun x hx => ?_, Nat.le_trans k3 b2, by simp only [List.length_cons]; omega, by simp only [List.length_cons]; omega⟩
    rcases List.mem_cons.mp hx with e | e
    · subst e; exact Nat.lt_of_lt_of_le k2 b2
    · exact a2 x e
theorem forward_ok {p : Prog} (h : ProgOk p) : ProgOk (Vagrai.forward p) ∧ (Vagrai.forward p).code.length ≤ 4 * p.code.length + p.outs.length ∧ (Vagrai.forward p).outs.length = p.outs.length := by
  have h0 : AheadOk (2 * p.inputs) [] p.code := ⟨h.code.mono (by omega), fun d hd => by simp at hd⟩
  obtain ⟨h1, a1, b1, c1⟩ := ahead_from p.code h0 (by simp) (fun i l e => by simpa using h.code i l e)
  obtain ⟨h2, a2, b2, c2, d2⟩ := ahead_outs p.outs h1
  exact ⟨⟨h2, a2⟩, Nat.le_trans c2 (by omega), d2⟩
end Lc
namespace Lc
open Vagraa (Frac frac zero)
open VagraLine (Line Code codeOf fracsOf well wellFrom)
open Vagrai (Prog)
/-! How lists of numbers are read: line by line, as the program does. -/
def sizeOf (k : Int) : Nat := if k = 0 ∨ k = 6 then 1 else 2
def op2 (k : Int) (i j : Nat) : Line := if k = 2 then .add i j else if k = 3 then .sub i j else if k = 4 then .mul i j else .div i j
def lineOf (k : Int) (ns : List Int) : Option Line :=
  if k = 1 then match ns with
    | [n, d] => if d < 1 then none else some (.num (frac n d.toNat))
    | _ => none
  else if k = 0 then match ns with
    | [i] => if i < 0 then none else some (.input i.toNat)
    | _ => none
  else if k = 6 then match ns with
    | [i] => if i < 0 then none else some (.neg i.toNat)
    | _ => none
  else match ns with
    | [i, j] => if i < 0 ∨ j < 0 then none else some (op2 k i.toNat j.toNat)
    | _ => none
theorem kinds {k : Int} (h0 : 0 ≤ k) (h6 : k ≤ 6) : k = 0 ∨ k = 1 ∨ k = 2 ∨ k = 3 ∨ k = 4 ∨ k = 5 ∨ k = 6 := by omega
theorem codeOf_step (f : Nat) {k : Int} (r : List Int) (h0 : 0 ≤ k) (h6 : k ≤ 6) : codeOf (f + 1) (k :: r) = (lineOf k (r.take (sizeOf k))).bind fun l => (codeOf f (r.drop (sizeOf k))).map (l :: ·) := by
  rcases kinds h0 h6 with rfl | rfl | rfl | rfl | rfl | rfl | rfl
  · cases r with
    | nil => simp [codeOf, lineOf, sizeOf]
    | cons a s => by_cases h : a < 0 <;> simp [codeOf, lineOf, sizeOf, h]
  · match r with
    | [] => simp [codeOf, lineOf, sizeOf]
    | [a] => simp [codeOf, lineOf, sizeOf]
    | a :: b :: s => by_cases h : b < 1 <;> simp [codeOf, lineOf, sizeOf, h]
  · match r with
    | [] => simp [codeOf, lineOf, sizeOf]
    | [a] => simp [codeOf, lineOf, sizeOf]
    | a :: b :: s => by_cases h : a < 0 ∨ b < 0 <;> simp [codeOf, lineOf, sizeOf, op2, h]
  · match r with
    | [] => simp [codeOf, lineOf, sizeOf]
    | [a] => simp [codeOf, lineOf, sizeOf]
    | a :: b :: s => by_cases h : a < 0 ∨ b < 0 <;> simp [codeOf, lineOf, sizeOf, op2, h]
  · match r with
    | [] => simp [codeOf, lineOf, sizeOf]
    | [a] => simp [codeOf, lineOf, sizeOf]
    | a :: b :: s => by_cases h : a < 0 ∨ b < 0 <;> simp [codeOf, lineOf, sizeOf, op2, h]
  · match r with
    | [] => simp [codeOf, lineOf, sizeOf]
    | [a] => simp [codeOf, lineOf, sizeOf]
    | a :: b :: s => by_cases h : a < 0 ∨ b < 0 <;> simp [codeOf, lineOf, sizeOf, op2, h]
  · cases r with
    | nil => simp [codeOf, lineOf, sizeOf]
    | cons a s => by_cases h : a < 0 <;> simp [codeOf, lineOf, sizeOf, h]
theorem codeOf_bad (f : Nat) {k : Int} (r : List Int) (h : k < 0 ∨ 6 < k) : codeOf f (k :: r) = none := by
  cases f with
  | zero => rfl
  | succ f => unfold codeOf; split <;> first | rfl | omega
theorem codeOf_fuel : ∀ (f : Nat) (r : List Int), r.length ≤ f → codeOf f r = codeOf r.length r
  | 0, [], _ => rfl
  | f + 1, [], _ => by simp [codeOf]
  | f + 1, k :: r, h => by
    simp only [List.length_cons] at h ⊢
    by_cases hk : 0 ≤ k ∧ k ≤ 6
    · rw [codeOf_step f r hk.1 hk.2, codeOf_step r.length r hk.1 hk.2]
      have e1 := codeOf_fuel f (r.drop (sizeOf k)) (by rw [List.length_drop]; omega)
      rw [e1]
      by_cases hl : r.length ≤ f
      · rcases Nat.lt_or_ge r.length f with lt | ge
        · rw [codeOf_fuel r.length (r.drop (sizeOf k)) (by rw [List.length_drop]; omega)]
        · have : r.length = f := by omega
          rw [this, e1]
      · omega
    · rw [codeOf_bad _ _ (by omega), codeOf_bad _ _ (by omega)]
/-- the code that a list tells -/
def codeIn (r : List Int) : Option Code := codeOf r.length r
theorem codeIn_nil : codeIn [] = some [] := rfl
theorem codeIn_bad {k : Int} (r : List Int) (h : k < 0 ∨ 6 < k) : codeIn (k :: r) = none := codeOf_bad _ _ h
theorem codeIn_step {k : Int} (r : List Int) (h0 : 0 ≤ k) (h6 : k ≤ 6) : codeIn (k :: r) = (lineOf k (r.take (sizeOf k))).bind fun l => (codeIn (r.drop (sizeOf k))).map (l :: ·) := by
  unfold codeIn
  rw [List.length_cons, codeOf_step r.length r h0 h6, codeOf_fuel r.length (r.drop (sizeOf k)) (by rw [List.length_drop]; omega)]
theorem lineOf_low {k : Int} {ns : List Int} {l : Line} (h : lineOf k ns = some l) : ∀ a, l = .num a → Low a := by
  intro a e
  subst e
  unfold lineOf at h
  split at h
  · split at h
    · split at h
      · cases h
      · cases h
        exact frac_low _ (by omega)
    · cases h
  · split at h
    · split at h
      · split at h <;> cases h
      · cases h
    · split at h
      · split at h
        · split at h <;> cases h
        · cases h
      · split at h
        · split at h
          · cases h
          · unfold op2 at h
            split at h
            · cases h
            · split at h
              · cases h
              · split at h <;> cases h
        · cases h
theorem codeIn_low : ∀ (n : Nat) (r : List Int) (c : Code), r.length ≤ n → codeIn r = some c → ∀ l ∈ c, ∀ a, l = .num a → Low a
  | _, [], c, _, h, l, hl, a, e => by rw [codeIn_nil] at h; cases h; simp at hl
  | 0, k :: r, c, hn, _, _, _, _, _ => by simp at hn
  | n + 1, k :: r, c, hn, h, l, hl, a, e => by
    by_cases hk : 0 ≤ k ∧ k ≤ 6
    · rw [codeIn_step r hk.1 hk.2] at h
      cases hL : lineOf k (r.take (sizeOf k)) with
      | none => rw [hL] at h; cases h
      | some m =>
        rw [hL] at h
        simp only [Option.bind_some] at h
        cases hC : codeIn (r.drop (sizeOf k)) with
        | none => rw [hC] at h; cases h
        | some d =>
          rw [hC] at h
          cases h
          rcases List.mem_cons.mp hl with z | z
          · subst z; exact lineOf_low hL a e
          · exact codeIn_low n _ d (by simp only [List.length_cons] at hn; rw [List.length_drop]; omega) hC l z a e
    · rw [codeIn_bad r (by omega)] at h; cases h
theorem codeIn_len : ∀ (n : Nat) (r : List Int) (c : Code), r.length ≤ n → codeIn r = some c → c.length ≤ r.length
  | _, [], c, _, h => by rw [codeIn_nil] at h; cases h; simp
  | 0, k :: r, c, hn, _ => by simp at hn
  | n + 1, k :: r, c, hn, h => by
    by_cases hk : 0 ≤ k ∧ k ≤ 6
    · rw [codeIn_step r hk.1 hk.2] at h
      cases hL : lineOf k (r.take (sizeOf k)) with
      | none => rw [hL] at h; cases h
      | some m =>
        rw [hL] at h
        simp only [Option.bind_some] at h
        cases hC : codeIn (r.drop (sizeOf k)) with
        | none => rw [hC] at h; cases h
        | some d =>
          rw [hC] at h
          cases h
          have := codeIn_len n _ d (by simp only [List.length_cons] at hn; rw [List.length_drop]; omega) hC
          rw [List.length_drop] at this
          simp only [List.length_cons]
          omega
    · rw [codeIn_bad r (by omega)] at h; cases h
/-! ### uses -/
/-- a line at place i that uses earlier lines and inputs that are there -/
def lineWell (n i : Nat) (l : Line) : Bool := l.uses.all (fun u => decide (u < i)) && (match l with
  | .input k => decide (k < n)
  | _ => true)
theorem wellFrom_cons (n i : Nat) (l : Line) (r : Code) : wellFrom n i (l :: r) = (lineWell n i l && wellFrom n (i + 1) r) := rfl
theorem wellFrom_all : ∀ (c : Code) (n i : Nat), wellFrom n i c = true → ∀ j l, c[j]? = some l → lineWell n (i + j) l = true
  | [], _, _, _, j, l, e => by simp at e
  | m :: r, n, i, h, 0, l, e => by
    rw [wellFrom_cons, Bool.and_eq_true] at h
    have : m = l := by simpa using e
    subst this
    exact h.1
  | m :: r, n, i, h, j + 1, l, e => by
    rw [wellFrom_cons, Bool.and_eq_true] at h
    have := wellFrom_all r n (i + 1) h.2 j l (by simpa using e)
    rw [show i + (j + 1) = i + 1 + j by omega]
    exact this
theorem lineWell_ok {n i : Nat} {l : Line} (h : lineWell n i l = true) (hl : ∀ a, l = .num a → Low a) : LineOk n i l := by
  unfold lineWell at h
  rw [Bool.and_eq_true, List.all_eq_true] at h
  refine ⟨fun u hu => by simpa using h.1 u hu, fun k e => ?_, hl⟩
  subst e
  simpa using h.2
theorem read_ok {n : Nat} {r : List Int} {c : Code} (h : codeIn r = some c) (hw : well n c = true) : CodeOk n c := fun i l e => by
  have := wellFrom_all c n 0 hw i l e
  rw [Nat.zero_add] at this
  exact lineWell_ok this (codeIn_low r.length r c (Nat.le_refl _) h l (List.mem_of_getElem? e))
/-! ### fractions -/
theorem fracsOf_two (n d : Int) (r : List Int) : fracsOf (n :: d :: r) = if d < 1 then none else (fracsOf r).map fun l => frac n d.toNat :: l := rfl
theorem fracsOf_len : ∀ (m : Nat) (r : List Int) (fs : List Frac), r.length ≤ m → fracsOf r = some fs → r.length = 2 * fs.length
  | _, [], fs, _, h => by cases h; rfl
  | _, [x], fs, _, h => by cases h
  | 0, _ :: _ :: _, _, h, _ => by simp at h
  | m + 1, n :: d :: r, fs, hm, h => by
    rw [fracsOf_two] at h
    split at h
    · cases h
    · cases hf : fracsOf r with
      | none => rw [hf] at h; cases h
      | some gs =>
        rw [hf] at h
        cases h
        have := fracsOf_len m r gs (by simp only [List.length_cons] at hm; omega) hf
        simp only [List.length_cons]
        omega
theorem fracsOf_low : ∀ (m : Nat) (r : List Int) (fs : List Frac), r.length ≤ m → fracsOf r = some fs → ∀ a ∈ fs, Low a
  | _, [], fs, _, h, a, ha => by cases h; simp at ha
  | _, [x], fs, _, h, _, _ => by cases h
  | 0, _ :: _ :: _, _, h, _, _, _ => by simp at h
  | m + 1, n :: d :: r, fs, hm, h, a, ha => by
    rw [fracsOf_two] at h
    split at h
    · cases h
    · cases hf : fracsOf r with
      | none => rw [hf] at h; cases h
      | some gs =>
        rw [hf] at h
        cases h
        rcases List.mem_cons.mp ha with z | z
        · subst z; exact frac_low _ (by omega)
        · exact fracsOf_low m r gs (by simp only [List.length_cons] at hm; omega) hf a z
theorem frac_small {n : Int} {d b : Nat} (hd : 0 < d) (hn : n.natAbs < b) (hdb : d < b) : (frac n d).num.natAbs < b ∧ (frac n d).den < b := by
  unfold frac
  rw [if_neg (by omega)]
  refine ⟨?_, Nat.lt_of_le_of_lt (Nat.div_le_self _ _) hdb⟩
  exact Nat.lt_of_le_of_lt (Int.natAbs_ediv_le_natAbs _ _) hn
theorem fracsOf_small {b : Nat} : ∀ (m : Nat) (r : List Int) (fs : List Frac), r.length ≤ m → (∀ x ∈ r, x.natAbs < b) → fracsOf r = some fs → ∀ a ∈ fs, a.num.natAbs < b ∧ a.den < b
  | _, [], fs, _, _, h, a, ha => by cases h; simp at ha
  | _, [x], fs, _, _, h, _, _ => by cases h
  | 0, _ :: _ :: _, _, h, _, _, _, _ => by simp at h
  | m + 1, n :: d :: r, fs, hm, hb, h, a, ha => by
    rw [fracsOf_two] at h
    split at h
    · cases h
    · cases hf : fracsOf r with
      | none => rw [hf] at h; cases h
      | some gs =>
        rw [hf] at h
        cases h
        rcases List.mem_cons.mp ha with z | z
        · subst z
          have h1 := hb n (by simp)
          have h2 := hb d (by simp)
          exact frac_small (by omega) h1 (by omega)
        · exact fracsOf_small m r gs (by simp only [List.length_cons] at hm; omega) (fun x hx => hb x (by simp [hx])) hf a z
end Lc
namespace Lc
open Vagraa (Frac frac zero)
open VagraLine (Line)
open Vagrai (Prog neededFrom needed place renamed trimmed)
/-! Trimming: what is needed is closed, and the trimmed program is well made. -/
theorem setAll_len (us : List Nat) (ns : List Bool) : (us.foldl (fun a k => a.set k true) ns).length = ns.length := by
  induction us generalizing ns with
  | nil => rfl
  | cons u r ih => rw [List.foldl_cons, ih, List.length_set]
theorem setAll_other (us : List Nat) (ns : List Bool) (j : Nat) (h : ∀ u ∈ us, u ≠ j) : (us.foldl (fun a k => a.set k true) ns)[j]? = ns[j]? := by
  induction us generalizing ns with
  | nil => rfl
  | cons u r ih =>
    rw [List.foldl_cons, ih _ fun v hv => h v (List.mem_cons_of_mem _ hv), List.getElem?_set_ne (h u (List.mem_cons_self ..))]
theorem setAll_mono (us : List Nat) (ns : List Bool) (j : Nat) (h : ns[j]? = some true) : (us.foldl (fun a k => a.set k true) ns)[j]? = some true := by
  induction us generalizing ns with
  | nil => exact h
  | cons u r ih =>
    rw [List.foldl_cons]
    refine ih _ ?_
    by_cases e : u = j
    · subst e
      rw [List.getElem?_set_self (List.getElem?_eq_some_iff.mp h).1]
    · rw [List.getElem?_set_ne e]; exact h
theorem setAll_in (us : List Nat) (ns : List Bool) (j : Nat) (h : j ∈ us) (hj : j < ns.length) : (us.foldl (fun a k => a.set k true) ns)[j]? = some true := by
  induction us generalizing ns with
  | nil => simp at h
  | cons u r ih =>
    rw [List.foldl_cons]
    rcases List.mem_cons.mp h with e | e
    · subst e
      exact setAll_mono r _ j (List.getElem?_set_self hj)
    · exact ih _ e (by rw [List.length_set]; exact hj)
/-- one turn of neededFrom -/
def needStep (c : List Line) (i : Nat) (ns : List Bool) : List Bool := if ns.getD i false = true then (c.getD i (.num zero)).uses.foldl (fun a k => a.set k true) ns else ns
theorem neededFrom_succ (c : List Line) (i : Nat) (ns : List Bool) : neededFrom c (i + 1) ns = neededFrom c i (needStep c i ns) := rfl
theorem needStep_len (c : List Line) (i : Nat) (ns : List Bool) : (needStep c i ns).length = ns.length := by
  unfold needStep
  split
  · exact setAll_len _ _
  · rfl
theorem neededFrom_len (c : List Line) : ∀ (n : Nat) (ns : List Bool), (neededFrom c n ns).length = ns.length
  | 0, _ => rfl
  | n + 1, ns => by rw [neededFrom_succ, neededFrom_len c n, needStep_len]
theorem getD_b {ns : List Bool} {i : Nat} : ns.getD i false = true ↔ ns[i]? = some true := by
  rw [List.getD_eq_getElem?_getD]
  cases e : ns[i]? with
  | none => simp
  | some b => simp
theorem needStep_mono (c : List Line) (i : Nat) (ns : List Bool) (j : Nat) (h : ns[j]? = some true) : (needStep c i ns)[j]? = some true := by
  unfold needStep
  split
  · exact setAll_mono _ _ j h
  · exact h
theorem needed_mono (c : List Line) : ∀ (n : Nat) (ns : List Bool) (j : Nat), ns[j]? = some true → (neededFrom c n ns)[j]? = some true
  | 0, _, _, h => h
  | n + 1, ns, j, h => by rw [neededFrom_succ]; exact needed_mono c n _ j (needStep_mono c n ns j h)
theorem uses_lt {m : Nat} {c : List Line} (h : CodeOk m c) {i : Nat} (hi : i < c.length) : ∀ u ∈ (c.getD i (.num zero)).uses, u < i := (h i _ (getD_some hi)).uses
theorem needStep_above {m : Nat} {c : List Line} (h : CodeOk m c) {i : Nat} (hi : i < c.length) (ns : List Bool) (j : Nat) (hj : i ≤ j) : (needStep c i ns)[j]? = ns[j]? := by
  unfold needStep
  split
  · exact setAll_other _ _ _ fun u hu => by have := uses_lt h hi u hu; omega
  · rfl
theorem needed_above {m : Nat} {c : List Line} (h : CodeOk m c) : ∀ (n : Nat) (ns : List Bool), n ≤ c.length → ∀ j, n ≤ j → (neededFrom c n ns)[j]? = ns[j]?
  | 0, _, _, _, _ => rfl
  | n + 1, ns, hn, j, hj => by
    rw [neededFrom_succ, needed_above h n _ (by omega) j (by omega)]
    exact needStep_above h (by omega) ns j (by omega)
theorem needed_closed {m : Nat} {c : List Line} (h : CodeOk m c) : ∀ (n : Nat) (ns : List Bool), n ≤ c.length → ns.length = c.length → ∀ i, i < n → (neededFrom c n ns)[i]? = some true → ∀ u ∈ (c.getD i (.num zero)).uses, (neededFrom c n ns)[u]? = some true
  | 0, _, _, _, i, hi, _, _, _ => by omega
  | n + 1, ns, hn, hl, i, hi, hr, u, hu => by
    rw [neededFrom_succ] at hr ⊢
    rcases Nat.lt_or_ge i n with lt | ge
    · exact needed_closed h n _ (by omega) (by rw [needStep_len]; exact hl) i lt hr u hu
    · have e : i = n := by omega
      subst e
      rw [needed_above h i _ (by omega) i (Nat.le_refl _), needStep_above h (by omega) ns i (Nat.le_refl _)] at hr
      refine needed_mono c i _ u ?_
      have ul := uses_lt h (by omega) u hu
      unfold needStep
      rw [if_pos (getD_b.mpr hr)]
      exact setAll_in _ _ _ hu (by omega)
theorem needed_len (p : Prog) : (needed p).length = p.code.length := by
  unfold needed
  rw [neededFrom_len]
  simp
theorem needed_out {p : Prog} (h : ProgOk p) {o : Nat} (ho : o ∈ p.outs) : (needed p)[o]? = some true := by
  refine needed_mono _ _ _ o ?_
  have := h.outs o ho
  rw [List.getElem?_map, List.getElem?_range this]
  simpa using ho
theorem needed_use {p : Prog} (h : ProgOk p) {i u : Nat} {l : Line} (hl : p.code[i]? = some l) (hn : (needed p)[i]? = some true) (hu : u ∈ l.uses) : (needed p)[u]? = some true := by
  have hi : i < p.code.length := (List.getElem?_eq_some_iff.mp hl).1
  have e := getD_some hi
  rw [hl] at e
  refine needed_closed h.code _ _ (Nat.le_refl _) (by simp) i hi hn u ?_
  rw [← Option.some.inj e]
  exact hu
/-! ### places -/
theorem place_zero (ns : List Bool) : place ns 0 = 0 := rfl
theorem place_succ {ns : List Bool} {i : Nat} {b : Bool} (h : ns[i]? = some b) : place ns (i + 1) = place ns i + (if b = true then 1 else 0) := by
  unfold place
  rw [List.take_succ, h, List.filter_append, List.length_append]
  cases b <;> rfl
theorem place_mono (ns : List Bool) {i j : Nat} (h : i ≤ j) : place ns i ≤ place ns j := by
  unfold place
  obtain ⟨k, rfl⟩ := Nat.le.dest h
  rw [List.take_add, List.filter_append, List.length_append]
  omega
theorem place_lt {ns : List Bool} {u i : Nat} (h : ns[u]? = some true) (hi : u < i) : place ns u < place ns i := by
  have a := place_succ h
  have b := place_mono ns (show u + 1 ≤ i by omega)
  rw [if_pos rfl] at a
  omega
theorem place_le (ns : List Bool) (i : Nat) : place ns i ≤ i := by
  unfold place
  refine Nat.le_trans (List.length_filter_le ..) ?_
  rw [List.length_take]
  omega
/-- the needed lines among the first i -/
def trimTo (ns : List Bool) (c : List Line) (i : Nat) : List Line := (((c.take i).zip (ns.take i)).filter fun x => x.2).map fun x => renamed (place ns) x.1
theorem trimTo_zero (ns : List Bool) (c : List Line) : trimTo ns c 0 = [] := by simp [trimTo]
theorem trimTo_succ {ns : List Bool} {c : List Line} {i : Nat} {l : Line} {b : Bool} (hl : c[i]? = some l) (hb : ns[i]? = some b) : trimTo ns c (i + 1) = trimTo ns c i ++ (if b = true then [renamed (place ns) l] else []) := by
  unfold trimTo
  have hi : i < c.length := (List.getElem?_eq_some_iff.mp hl).1
  have hj : i < ns.length := (List.getElem?_eq_some_iff.mp hb).1
  rw [List.take_succ, List.take_succ, hl, hb, List.zip_append (by simp; omega)]
  rw [List.filter_append, List.map_append]
  cases b <;> rfl
theorem trimTo_all {p : Prog} : (trimmed p).code = trimTo (needed p) p.code p.code.length := by
  unfold trimTo
  rw [List.take_length, ← needed_len p, List.take_length]
  rfl
theorem trimTo_len {ns : List Bool} {c : List Line} (h : ns.length = c.length) : ∀ i, i ≤ c.length → (trimTo ns c i).length = place ns i
  | 0, _ => by rw [trimTo_zero, place_zero]; rfl
  | i + 1, hi => by
    have hl : c[i]? = some c[i] := List.getElem?_eq_getElem (by omega)
    have hb : ns[i]? = some ns[i] := List.getElem?_eq_getElem (by omega)
    rw [trimTo_succ hl hb, place_succ hb, List.length_append, trimTo_len h i (by omega)]
    cases ns[i] <;> simp
theorem renamed_ok {n i k : Nat} {f : Nat → Nat} {l : Line} (h : LineOk n i l) (hf : ∀ u ∈ l.uses, f u < k) : LineOk n k (renamed f l) := by
  cases l with
  | input j => exact ok_input (h.inp j rfl)
  | num a => exact ok_num (h.low a rfl)
  | add a b => exact ok_add (hf a (by simp [Line.uses])) (hf b (by simp [Line.uses]))
  | sub a b => exact ok_sub (hf a (by simp [Line.uses])) (hf b (by simp [Line.uses]))
  | mul a b => exact ok_mul (hf a (by simp [Line.uses])) (hf b (by simp [Line.uses]))
  | div a b => exact ok_div (hf a (by simp [Line.uses])) (hf b (by simp [Line.uses]))
  | neg a => exact ok_neg (hf a (by simp [Line.uses]))
theorem trimTo_ok {p : Prog} (h : ProgOk p) : ∀ i, i ≤ p.code.length → CodeOk p.inputs (trimTo (needed p) p.code i)
  | 0, _ => by rw [trimTo_zero]; exact CodeOk.nil _
  | i + 1, hi => by
    have hl : p.code[i]? = some p.code[i] := List.getElem?_eq_getElem (by omega)
    have hb : (needed p)[i]? = some ((needed p)[i]'(by rw [needed_len]; omega)) := List.getElem?_eq_getElem _
    rw [trimTo_succ hl hb]
    have ih := trimTo_ok h i (by omega)
    by_cases e : (needed p)[i]'(by rw [needed_len]; omega) = true
    · rw [if_pos e]
      refine ih.snoc (renamed_ok (h.code i _ hl) fun u hu => ?_)
      rw [trimTo_len (needed_len p) i (by omega)]
      rw [e] at hb
      exact place_lt (needed_use h hl hb hu) ((h.code i _ hl).uses u hu)
    · rw [if_neg e, List.append_nil]; exact ih
theorem trimmed_ok {p : Prog} (h : ProgOk p) : ProgOk (trimmed p) := by
  refine ⟨?_, fun o ho => ?_⟩
  · rw [trimTo_all]
    exact trimTo_ok h _ (Nat.le_refl _)
  · have ho : o ∈ p.outs.map (place (needed p)) := ho
    obtain ⟨q, hq, e⟩ := List.mem_map.mp ho
    subst e
    rw [trimTo_all, trimTo_len (needed_len p) _ (Nat.le_refl _)]
    exact place_lt (needed_out h hq) (h.outs q hq)
theorem trimmed_len (p : Prog) : (trimmed p).code.length ≤ p.code.length := by
  rw [trimTo_all, trimTo_len (needed_len p) _ (Nat.le_refl _)]
  exact place_le _ _
theorem trimmed_outs (p : Prog) : (trimmed p).outs.length = p.outs.length := List.length_map _
theorem trimmed_ins (p : Prog) : (trimmed p).inputs = p.inputs := rfl
end Lc
set_option Elab.async false
set_option linter.all false
/-! Texts: the places of the signs, decimal digits, lengths. -/
namespace Lc
open PySem
open Vagraa (Bytes Frac bits decimal decimalGo signed)
/-- a text's signs in numbers -/
def codes (s : Str) : Bytes := s.cps.toList
theorem codes_append (a b : Str) : codes (a ++ b) = codes a ++ codes b := by
  show (a.cps ++ b.cps).toList = _
  rw [Array.toList_append]
  rfl
theorem cps_of (s : String) : codes (Str.ofString s) = s.toList.map Char.toNat := by
  rw [Str.ofString_eq_toList]
  rfl
theorem codes_len (s : Str) : (codes s).length = s.length := by
  show s.cps.toList.length = s.cps.size
  rw [Array.length_toList]
theorem codes_inj {a b : Str} (h : codes a = codes b) : a = b := by
  obtain ⟨a⟩ := a
  obtain ⟨b⟩ := b
  have : a = b := Array.toList_inj.mp h
  rw [this]
theorem codes_mk (l : List Nat) : codes ⟨l.toArray⟩ = l := rfl
theorem codes_join (sep : Str) : ∀ l : List Str, codes (Str.join sep l) = (match l with
    | [] => []
    | x :: r => codes x ++ r.flatMap (fun y => codes sep ++ codes y))
  | [] => rfl
  | [x] => by show codes x = codes x ++ []; rw [List.append_nil]
  | x :: y :: r => by
    show codes (x ++ sep ++ Str.join sep (y :: r)) = _
    rw [codes_append, codes_append, codes_join sep (y :: r)]
    show codes x ++ codes sep ++ (codes y ++ r.flatMap _) = codes x ++ ((codes sep ++ codes y) ++ r.flatMap _)
    simp only [List.append_assoc]
theorem commas_is : ∀ l : List Bytes, Vagrai.commas l = (match l with
    | [] => []
    | x :: r => x ++ r.flatMap (fun y => [44, 32] ++ y))
  | [] => rfl
  | [x] => by show x = x ++ []; rw [List.append_nil]
  | x :: y :: r => by
    show x ++ (44 :: 32 :: Vagrai.commas (y :: r)) = _
    rw [commas_is (y :: r)]
    rfl
theorem codes_commas {sep : Str} (hs : codes sep = [44, 32]) (l : List Str) : codes (Str.join sep l) = Vagrai.commas (l.map codes) := by
  rw [codes_join, commas_is]
  cases l with
  | nil => rfl
  | cons x r =>
    rw [hs]
    show codes x ++ r.flatMap (fun y => [44, 32] ++ codes y) = codes x ++ (r.map codes).flatMap (fun y => [44, 32] ++ y)
    rw [List.flatMap_map]
/-! ### digits -/
theorem digit_code : ∀ {d : Nat}, d < 10 → (Nat.digitChar d).toNat = 48 + d
  | 0, _ => rfl | 1, _ => rfl | 2, _ => rfl | 3, _ => rfl | 4, _ => rfl | 5, _ => rfl | 6, _ => rfl | 7, _ => rfl | 8, _ => rfl | 9, _ => rfl
  | d + 10, h => absurd h (by omega)
theorem bits_div {n : Nat} (h : 10 ≤ n) : bits (n / 10) < bits n := by
  unfold bits
  have h1 : n / 10 ≠ 0 := by omega
  have h2 : n ≠ 0 := by omega
  rw [if_neg h1, if_neg h2]
  have : Nat.log2 (n / 10) < Nat.log2 n := by
    rw [Nat.log2_lt h1]
    have a : 2 ^ Nat.log2 n ≤ n := Nat.log2_self_le h2
    have b : n < 2 ^ (Nat.log2 n + 1) := Nat.lt_log2_self
    have c : (2 : Nat) ^ (Nat.log2 n + 1) = 2 * 2 ^ Nat.log2 n := by rw [Nat.pow_succ, Nat.mul_comm]
    omega
  omega
theorem decimalGo_is : ∀ (f n : Nat), bits n < f → decimalGo f n = (Nat.toDigits 10 n).map Char.toNat
  | 0, n, h => absurd h (by omega)
  | f + 1, n, h => by
    unfold decimalGo
    by_cases c : n < 10
    · rw [if_pos c, Nat.toDigits_of_lt_base c, List.map_singleton, digit_code c]
    · rw [if_neg c, Nat.toDigits_of_base_le (by decide) (by omega), List.map_append, List.map_singleton, digit_code (by omega), decimalGo_is f (n / 10) (by have := bits_div (n := n) (by omega); omega)]
theorem decimal_is (n : Nat) : decimal n = (Nat.toDigits 10 n).map Char.toNat := decimalGo_is _ n (by omega)
theorem decimalGo_len : ∀ (f n : Nat), (decimalGo f n).length ≤ f
  | 0, n => Nat.le_refl _
  | f + 1, n => by
    unfold decimalGo
    split
    · show 1 ≤ f + 1; omega
    · rw [List.length_append]
      have := decimalGo_len f (n / 10)
      show (decimalGo f (n / 10)).length + 1 ≤ f + 1
      omega
theorem decimal_len (n : Nat) : (decimal n).length ≤ bits n + 1 := decimalGo_len _ _
theorem codes_nat (n : Nat) : codes (Str.ofString (toString n)) = decimal n := by
  rw [cps_of, decimal_is]
  show (String.ofList (Nat.toDigits 10 n)).toList.map Char.toNat = _
  rw [String.toList_ofList]
theorem codes_int (i : Int) : codes (Str.ofString (toString i)) = signed i := by
  cases i with
  | ofNat n =>
    show codes (Str.ofString (toString n)) = signed (n : Int)
    rw [codes_nat]
    unfold signed
    rw [if_neg (by omega)]
    rfl
  | negSucc n =>
    rw [cps_of]
    show ("-" ++ (n + 1).repr).toList.map Char.toNat = _
    rw [String.toList_append, List.map_append]
    unfold signed
    rw [if_pos (by omega), decimal_is]
    show [45] ++ (String.ofList (Nat.toDigits 10 (n + 1))).toList.map Char.toNat = _
    rw [String.toList_ofList]
    rfl
theorem bits_lt {n k : Nat} (h : n < 2 ^ k) : bits n ≤ k := by
  unfold bits
  by_cases z : n = 0
  · rw [if_pos z]; omega
  · rw [if_neg z]
    exact (Nat.log2_lt z).mpr h
theorem slen (a b : Str) : (a ++ b).length = a.length + b.length := by
  show (a.cps ++ b.cps).size = _
  rw [Array.size_append]
  rfl
theorem slen_empty : Str.empty.length = 0 := rfl
theorem codes_empty : codes Str.empty = [] := rfl
theorem signed_len {i : Int} {k : Nat} (h : i.natAbs < 2 ^ k) : (signed i).length ≤ k + 2 := by
  unfold signed
  have := decimal_len i.natAbs
  have := bits_lt h
  split
  · rw [List.length_cons]; omega
  · omega
theorem int_len {i : Int} {k : Nat} (h : i.natAbs < 2 ^ k) : (Str.ofString (toString i)).length ≤ k + 2 := by
  rw [← codes_len, codes_int]
  exact signed_len h
theorem log_lt {n k : Nat} (h : n < 2 ^ k) (hk : 0 < k) : n.log2 < k := by
  by_cases z : n = 0
  · rw [z]; exact hk
  · exact (Nat.log2_lt z).mpr h
theorem small_num {a : Frac} (h : Vagrai.small a = true) : a.num.natAbs < 2 ^ 60 ∧ a.den < 2 ^ 60 := by
  unfold Vagrai.small at h
  rw [Bool.and_eq_true] at h
  have h1 := of_decide_eq_true h.1
  have h2 := of_decide_eq_true h.2
  have e : (2 : Nat) ^ 60 = 1152921504606846976 := by decide
  omega
theorem signed_nat (n : Nat) : signed (n : Int) = decimal n := by
  unfold signed
  rw [if_neg (by omega)]
  rfl
end Lc
set_option Elab.async false
set_option linter.all false
/-! The flat list of calls: what is read off it, and what is asked of it. -/
namespace Lc
open VagraiNeutral
theorem rows_succ {k : Nat} {l : List Int} {ys : List (List Int)} {t : List Int} (h : PyFlat.rows (k + 1) l = some (ys, t)) :
    ∃ (n : Nat) (r : List Int) (xs : List (List Int)), l = (n : Int) :: r ∧ n ≤ r.length ∧ ys = r.take n :: xs ∧ PyFlat.rows k (r.drop n) = some (xs, t) := by
  cases l with
  | nil => cases h
  | cons a r =>
    by_cases c : 0 ≤ a ∧ a.toNat ≤ r.length
    · have e : PyFlat.row (a :: r) = some (r.take a.toNat, r.drop a.toNat) := if_pos c
      have h' : (match PyFlat.row (a :: r) with
        | none => none
        | some (x, s) => match PyFlat.rows k s with
          | none => none
          | some (xs, t) => some (x :: xs, t)) = some (ys, t) := h
      rw [e] at h'
      have h2 : (match PyFlat.rows k (r.drop a.toNat) with
          | none => none
          | some (xs, t) => some (r.take a.toNat :: xs, t)) = some (ys, t) := h'
      cases z : PyFlat.rows k (r.drop a.toNat) with
      | none => rw [z] at h2; cases h2
      | some p =>
        obtain ⟨xs, t'⟩ := p
        rw [z] at h2
        cases h2
        exact ⟨a.toNat, r, xs, by congr 1; omega, c.2, rfl, z⟩
    · have e : PyFlat.row (a :: r) = none := if_neg c
      have h' : (match PyFlat.row (a :: r) with
        | none => none
        | some (x, s) => match PyFlat.rows k s with
          | none => none
          | some (xs, t) => some (x :: xs, t)) = some (ys, t) := h
      rw [e] at h'
      cases h'
theorem rows_zero {l : List Int} {ys : List (List Int)} {t : List Int} (h : PyFlat.rows 0 l = some (ys, t)) : ys = [] ∧ l = t := by
  cases h
  exact ⟨rfl, rfl⟩
theorem rows_len : ∀ {k : Nat} {l : List Int} {ys : List (List Int)} {t : List Int}, PyFlat.rows k l = some (ys, t) → ys.length = k
  | 0, _, _, _, h => by rw [(rows_zero h).1]; rfl
  | k + 1, _, _, _, h => by
    obtain ⟨n, r, xs, _, _, rfl, h2⟩ := rows_succ h
    rw [List.length_cons, rows_len h2]
theorem call_inv {l : List Int} {c : List (List Int)} {t : List Int} (h : PyFlat.call PyVagrai.shape l = some (c, t)) :
    ∃ (p : Int) (r : List Int) (n k : Nat) (xs : List (List Int)), l = p :: r ∧ PyVagrai.shape p = some (n, k) ∧ n ≤ r.length ∧ PyFlat.rows k (r.drop n) = some (xs, t) ∧ c = (p :: r.take n) :: xs := by
  cases l with
  | nil => cases h
  | cons p r =>
    have h : (match PyVagrai.shape p with
      | none => none
      | some (n, k) => if r.length < n then none else match PyFlat.rows k (r.drop n) with
        | none => none
        | some (xs, t) => some ((p :: r.take n) :: xs, t)) = some (c, t) := h
    cases e : PyVagrai.shape p with
    | none => rw [e] at h; cases h
    | some nk =>
      obtain ⟨n, k⟩ := nk
      rw [e] at h
      have h : (if r.length < n then none else match PyFlat.rows k (r.drop n) with
        | none => none
        | some (xs, t) => some ((p :: r.take n) :: xs, t)) = some (c, t) := h
      by_cases q : r.length < n
      · rw [if_pos q] at h; cases h
      · rw [if_neg q] at h
        cases z : PyFlat.rows k (r.drop n) with
        | none => rw [z] at h; cases h
        | some p2 =>
          obtain ⟨xs, t'⟩ := p2
          rw [z] at h
          cases h
          exact ⟨p, r, n, k, xs, rfl, e, by omega, z, rfl⟩
theorem calls_nil {f : Nat} {cs : List (List (List Int))} (h : PyFlat.calls PyVagrai.shape f [] = some cs) : cs = [] := by
  cases f <;> (cases h; rfl)
theorem calls_cons {f : Nat} {p : Int} {r : List Int} {cs : List (List (List Int))} (h : PyFlat.calls PyVagrai.shape f (p :: r) = some cs) :
    ∃ (g : Nat) (c : List (List Int)) (t : List Int) (ds : List (List (List Int))), PyFlat.call PyVagrai.shape (p :: r) = some (c, t) ∧ PyFlat.calls PyVagrai.shape g t = some ds ∧ cs = c :: ds := by
  cases f with
  | zero => cases h
  | succ g =>
    have h : (match PyFlat.call PyVagrai.shape (p :: r) with
      | none => none
      | some (c, t) => match PyFlat.calls PyVagrai.shape g t with
        | none => none
        | some cs => some (c :: cs)) = some cs := h
    cases e : PyFlat.call PyVagrai.shape (p :: r) with
    | none => rw [e] at h; cases h
    | some ct =>
      obtain ⟨c, t⟩ := ct
      rw [e] at h
      have h : (match PyFlat.calls PyVagrai.shape g t with
        | none => none
        | some cs => some (c :: cs)) = some cs := h
      cases z : PyFlat.calls PyVagrai.shape g t with
      | none => rw [z] at h; cases h
      | some ds =>
        rw [z] at h
        cases h
        exact ⟨g, c, t, ds, rfl, z, rfl⟩
theorem whole_is (c : List (List Int)) : PyVagrai.whole c = c := by
  unfold PyVagrai.whole
  split <;> rfl
theorem calls_is {l : List Int} {raw : List (List (List Int))} (h : PyFlat.calls PyVagrai.shape l.length l = some raw) : PyVagrai.answers l = PyFlat.told (PyFlat.played VagraiNeutral.step VagraiNeutral.start raw) := by
  unfold PyVagrai.answers PyVagrai.calls
  rw [h]
  show PyFlat.told (PyFlat.played VagraiNeutral.step VagraiNeutral.start (raw.map PyVagrai.whole)) = _
  rw [show raw.map PyVagrai.whole = raw from by rw [List.map_congr_left (g := id) (fun c _ => whole_is c), List.map_id]]
theorem asked_inv {l : List Int} (h : PyVagrai.answers_asked l = true) :
    ∃ raw, PyFlat.calls PyVagrai.shape l.length l = some raw ∧ (∀ c ∈ raw, asked1 c = true) ∧ (PyFlat.told (PyFlat.played VagraiNeutral.step VagraiNeutral.start raw)).length ≤ 10000000 := by
  unfold PyVagrai.answers_asked at h
  cases e : PyFlat.calls PyVagrai.shape l.length l with
  | none => rw [e] at h; cases h
  | some raw =>
    rw [e] at h
    have h : (!raw.isEmpty && PyFlat.atMost 70 raw && PyInside.calls PyVagrai.bound raw && VagraiNeutral.asked (raw.map PyVagrai.whole) && PyFlat.short 10000000 (PyVagrai.answers l)) = true := h
    rw [Bool.and_eq_true, Bool.and_eq_true] at h
    obtain ⟨⟨_, h1⟩, h2⟩ := h
    rw [show raw.map PyVagrai.whole = raw from by rw [List.map_congr_left (g := id) (fun c _ => whole_is c), List.map_id]] at h1
    refine ⟨raw, rfl, fun c hc => ?_, ?_⟩
    · unfold VagraiNeutral.asked at h1
      rw [Bool.and_eq_true] at h1
      exact List.all_eq_true.mp h1.1 c hc
    · rw [← calls_is e]
      exact of_decide_eq_true h2
/-- a number that is asked -/
def SmallZ (z : Int) : Prop := z.natAbs < 2 ^ 4000
theorem smallZ_of {z : Int} (h : whole60 z = true) : SmallZ z := by
  unfold whole60 at h
  rw [Bool.and_eq_true] at h
  have h1 := of_decide_eq_true h.1
  have h2 := of_decide_eq_true h.2
  have : z.natAbs < 2 ^ 60 := by
    have e : (2 : Nat) ^ 60 = 1152921504606846976 := by decide
    have e2 : (10 : Int) ^ 18 = 1000000000000000000 := by decide
    rw [e2] at h1 h2
    omega
  exact Nat.lt_of_lt_of_le this (Nat.pow_le_pow_right (by decide) (by decide))
/-- a list that is asked -/
def SmallL (l : List Int) (m : Nat) : Prop := l.length ≤ m ∧ ∀ z ∈ l, SmallZ z
theorem smallL_of {l : List Int} {m : Nat} (h : (l.all (fun (z : Int) => whole60 z) && decide (l.length ≤ m)) = true) : SmallL l m := by
  rw [Bool.and_eq_true] at h
  exact ⟨of_decide_eq_true h.2, fun z hz => smallZ_of (List.all_eq_true.mp h.1 z hz)⟩
/-- a call that is asked, by its place -/
inductive Asked : Int → List Int → List (List Int) → Vagrai.Call → Prop
  | code {n : Int} {a b : List Int} : SmallZ n → SmallL a 400 → SmallL b 100 → Asked 0 [n] [a, b] (.code n a b)
  | back {t : Int} : SmallZ t → Asked 1 [t] [] (.back t)
  | ahead {t : Int} : SmallZ t → Asked 2 [t] [] (.ahead t)
  | adopt {k t : Int} : SmallZ k → SmallZ t → Asked 3 [k, t] [] (.adopt k t)
  | run {a : List Int} : SmallL a 100 → Asked 4 [] [a] (.run a)
  | gradient {a b : List Int} : SmallL a 100 → SmallL b 100 → Asked 5 [] [a, b] (.gradient a b)
  | change {a b : List Int} : SmallL a 100 → SmallL b 100 → Asked 6 [] [a, b] (.change a b)
  | ops : Asked 7 [] [] .ops
  | text {k : Int} : SmallZ k → Asked 8 [k] [] (.text k)
  | lines : Asked 9 [] [] .lines
  | needed : Asked 10 [] [] .needed
theorem asked_of {p : Int} {ns : List Int} {xs : List (List Int)} (h : asked1 ((p :: ns) :: xs) = true) : ∃ k, callOf ((p :: ns) :: xs) = some k ∧ Asked p ns xs k := by
  generalize e : (p :: ns) :: xs = c at h
  unfold asked1 at h
  split at h
  · cases e
    rw [Bool.and_eq_true, Bool.and_eq_true] at h
    exact ⟨_, rfl, .code (smallZ_of h.1) (smallL_of h.2.1) (smallL_of h.2.2)⟩
  · cases e; exact ⟨_, rfl, .back (smallZ_of h)⟩
  · cases e; exact ⟨_, rfl, .ahead (smallZ_of h)⟩
  · cases e
    rw [Bool.and_eq_true] at h
    exact ⟨_, rfl, .adopt (smallZ_of h.1) (smallZ_of h.2)⟩
  · cases e; exact ⟨_, rfl, .run (smallL_of h)⟩
  · cases e
    rw [Bool.and_eq_true] at h
    exact ⟨_, rfl, .gradient (smallL_of h.1) (smallL_of h.2)⟩
  · cases e
    rw [Bool.and_eq_true] at h
    exact ⟨_, rfl, .change (smallL_of h.1) (smallL_of h.2)⟩
  · cases e; exact ⟨_, rfl, .ops⟩
  · cases e; exact ⟨_, rfl, .text (smallZ_of h)⟩
  · cases e; exact ⟨_, rfl, .lines⟩
  · cases e; exact ⟨_, rfl, .needed⟩
  · cases h
theorem step_is {s : VagraiNeutral.S} {c : VagraiNeutral.Call} {k : Vagrai.Call} (h : callOf c = some k) : VagraiNeutral.step s c = match Vagrai.out s k with
    | .ok (u, l) => (u, l)
    | .error n => (s, [n]) := by
  unfold VagraiNeutral.step Vagrai.step
  rw [h]
  show ((match Vagrai.out s k with
    | .ok (u, l) => (u, Vagrai.Answer.told l)
    | .error n => (s, Vagrai.Answer.refused n)).1, VagraiNeutral.encode (match Vagrai.out s k with
    | .ok (u, l) => (u, Vagrai.Answer.told l)
    | .error n => (s, Vagrai.Answer.refused n)).2) = _
  cases Vagrai.out s k <;> rfl
theorem told_cons (a : List Int) (l : List (List Int)) : PyFlat.told (a :: l) = ((a.length : Int) :: a) ++ PyFlat.told l := rfl
end Lc
set_option Elab.async false
set_option linter.all false
/-! What the later calls are about, by names. -/
namespace Lc
open Vagrai (Prog)
/-- which lines are needed -/
def neededIx (p : Prog) : List Nat := (List.range p.code.length).filter fun i => (Vagrai.needed p).getD i false
/-- the numbers of the lines that are needed -/
def neededOnes (p : Prog) : List Int := (((List.range p.code.length).filter fun i => (Vagrai.needed p).getD i false).map Int.ofNat)
/-- the program that a text is of -/
def textProg (p : Prog) (k : Int) : Prog := if k = 0 then p else if k = 1 then Vagrai.trimmed (Vagrai.backward p) else Vagrai.trimmed (Vagrai.forward p)
end Lc
set_option Elab.async false
set_option linter.all false
set_option maxRecDepth 100000
set_option maxHeartbeats 4000000
/-! Rules that the layer lacks. -/
namespace Lc
open PySem PySem.Spec PyProof.Rows L2
/-! ### xs.extend(t), t a tuple -/
theorem extend_tup (l : Addr) (items : Array Value) (n : Nat) (b : Addr) (od : Option Addr) (sl : Array (Option Value)) (items2 : Array Value) (n2 : Nat) (h0 : ¬(!items.isEmpty && Builtin.List.listTooLong (items.size + items2.size)) = true) (h1 : items.size ≤ sizeLine)
    (h2 : items.size + items2.size ≤ sizeLine + 1) :
    Meets (Builtin.«list.extend» ⟨[.ref l, .ref b], []⟩) (fun _ R s => s.heap.get? l = some { cls := .type "list", dict := none, data := .seq items n, slots := #[] } ∧ s.heap.get? b = some { cls := .type "tuple", dict := od, data := .seq items2 n2, slots := sl } ∧
      R (.ok (.ret Value.none)) { s with heap := s.heap.update l (Obj.mapSeq fun x => x ++ items2), toks := s.toks }) :=
  .of_wp fun prog w A R s h => by
    obtain ⟨hp, g, d, tk, os⟩ := s
    obtain ⟨hl, hb, h⟩ := h
    have hz' : (items ++ items2).size ≤ sizeLine + 1 := by rw [Array.size_append]; exact h2
    have f1 := AutoSeq1.idx_int; have f2 := AutoSeq1.sub_tuple_tuple; have f3 := AutoSeq1.sub_list_list; have f4 := AutoSeq1.sub_tuple_list; have f5 := AutoSeq1.sub_list_tuple
    wp_walk using (wpAny_updateSeq hl rfl (hz := h1) (_hz' := hz')), wpAny_loadPart' hl, wpAny_loadPart' hb
    exact ⟨_, rfl, h⟩
def rExtendT (K : PySem.W.Frag) : V → List V → Hp → VK → Prop := fun x vs H Q => ∃ (l b : Addr) (xs zs : List V), x = .ref l ∧ vs = [.ref b] ∧ H l = some (.lst xs) ∧ SqT K H b zs ∧ xs.length + zs.length ≤ sizeLine ∧ Q .non (upd H l (.lst (xs ++ zs)))
theorem mt_extendT {X : Cx} : MtM X "list.extend" (rExtendT X.K) := by
  intro pins s σ H x vs v us Q I rx rv h
  obtain ⟨l, b, xs, zs, rfl, rfl, hH, hB, hz, q⟩ := h
  cases rx
  obtain ⟨u, rfl, ru⟩ := rv.one
  cases ru
  obtain ⟨_, its, n, r, hl, e⟩ := I.lstM hH
  obtain ⟨its2, r2, ⟨o, e2, hc, n2, hd⟩, _⟩ := I.tuple hB
  obtain ⟨oc, od, odat, osl⟩ := o
  dsimp only at hc hd
  subst hc hd
  have hl2 := r2.length
  have hsz : its.toArray.size + its2.toArray.size ≤ sizeLine := by rw [List.size_toArray, List.size_toArray, ← hl, ← hl2]; exact hz
  refine call_meets F.slot_list_extend ⟨_, e, rfl⟩ F.entry_list_extend (F.args_list_extend_2 _ _)
    (extend_tup l its.toArray n b od osl its2.toArray n2 (by rw [notLongL hsz, Bool.and_false]; exact Bool.false_ne_true) (by rw [List.size_toArray]; omega) (by omega)) ⟨e, e2, ?_⟩
  exact ⟨.non, _, I.lset (its' := its ++ its2) hH e (by simp) (r.append r2) (by rw [List.length_append]; exact hz), rfl, q⟩
/-! ### C.m(e, ..), C a class of the program: its plain def -/
structure ClsFn (K : PySem.W.Frag) (C : Addr) (m : Str) (f : Addr) : Prop where
  rd : ClX.CRead K C (.type "type")
  at_ : PySem.W.findCls K (.ref C) (.type "type") m = some (.val (.ref f))
theorem pe_clsfn {X : Cx} {CX : CXT} {k : Nat} {f C : Addr} {fd : FuncData} {ps : List Str} {sp : Sp} {dvs : List V} {ds : List Value} {E : XK} {x m : Str} {p pos apos : Pos} {e : Expr} {es : List Expr} {t : TA} {pl : Sem Bool}
    (F : FnOk X.prog X.w X.K X.mg X.base CX k f fd ps sp) (hr : Room k X.A) (hg : Gl X x) (hm : X.mg x = some (.ref C)) (cf : ClsFn X.K C m f) (hk : PySem.W.keepIn X.K (.ref f) = true) (hb : Binds X.K fd ps ds) (hd : Vals dvs ds) (hx : Passes CX X E)
    (ha : PA X (e :: es) t) (hdb : (x == ("__debug__" : Str)) = false := by decide)
    (hst : starEach (e :: es) X.env = (false, eval e X.env) :: starEach es X.env := by rfl) (hpl : (backTo pos (starEach es X.env)).any (·.1) = false := by rfl)
    (ht : eval (.Call (.Attribute (.Name x p) m apos) (e :: es) [] pos) X.env = (do
      let ov ← eval (.Name x p) X.env
      standAt apos.atName
      let (f, first) ← holding [ov] (getMethod ov m pl)
      callWith pos f first (backTo pos (starEach (e :: es) X.env)) (backToKw pos (keywordEach [] X.env))) := by rfl) :
    PE X (.Call (.Attribute (.Name x p) m apos) (e :: es) [] pos) (tCall sp dvs E t) := by
  refine ⟨fun pins s σ H Q I h => ?_⟩
  refine PySem.W.methodCall_KW (pl := pl) (ld_glob I hg hm ?_ hdb) ht
  refine PySem.W.method_cls I.kIn cf.rd.ga (PySem.W.cls_value I.kIn cf.rd.rd cf.at_ rfl ?_)
  refine PySem.W.callWith_K (first := []) (h₀ := X.base) I.ok.mod.kin hk (thn (ha.run pos pins _ σ H _ (I.tok _) h) fun us s1 ⟨vs, H1, I1, r, q⟩ => ⟨I1.kIn, ?_⟩) hst hpl
  exact run_fn F hr hb hd hx I1 r q
/-! ### for i, x in enumerate(xs): the list stands, each pair is a new tuple -/
theorem for_enum {K : PySem.W.Frag} {a : Addr} {xs : List V} {g : TG} {tb : TS} {D : Ends} {σ : L2.St} {H : Hp} (Pv : Nat → L2.St → Hp → Prop) (h0 : Pv 0 σ H) (hl : ∀ i σ H, i ≤ xs.length → Pv i σ H → SqL K H a xs)
    (hs : ∀ i x σ H T, xs[i]? = some x → Pv i σ H → H T = none → g (.ref T) σ (upd H T (.tup [.int (i : Nat), x])) fun σ2 H2 => tb { D with nx := Pv (i + 1), ct := Pv (i + 1), bk := D.nx } σ2 H2) (hd : ∀ σ H, Pv xs.length σ H → D.nx σ H) :
    ∃ W : Nat → Nat → L2.St → Hp → Prop, (∃ m, W 0 m σ H) ∧ ∀ i m σ H, W i m σ H →
      ((Ite K a).stop i H ∧ D.nx σ H) ∨ ((Ite K a).go i H ∧ ∃ N : L2.St → Hp → Prop, (∀ σ' H', N σ' H' → ∃ m', m' < m ∧ W (i + 1) m' σ' H') ∧ ∀ x H', (Ite K a).yld i H x H' → g x σ H' fun σ2 H2 => tb { D with nx := N, ct := N, bk := D.nx } σ2 H2) := by
  refine ⟨fun i m σ H => m + i = xs.length ∧ Pv i σ H, ⟨_, Nat.add_zero _, h0⟩, fun i m σ H h => ?_⟩
  obtain ⟨hm, p⟩ := h
  have q := hl i σ H (by omega) p
  rcases Nat.lt_or_ge i xs.length with lt | ge
  · refine .inr ⟨⟨xs, xs[i], q, by simp [lt]⟩, Pv (i + 1), fun σ' H' p' => ⟨m - 1, by omega, by omega, p'⟩, fun x H' y => ?_⟩
    obtain ⟨T, z, e1, e2, e3, e4⟩ := y
    rw [e1, e3]
    exact hs i z σ H T (e4 xs q) p e2
  · have e : i = xs.length := by omega
    rw [e] at p
    exact .inl ⟨⟨xs, q, ge⟩, hd σ H p⟩
end Lc
set_option Elab.async false
set_option linter.all false
set_option maxRecDepth 100000
set_option maxHeartbeats 4000000
/-! The program's refusals: classes two below Exception, whose __init__ calls the base's by name. -/
namespace Lc
open PySem PySem.W PySem.Spec PyProof.Rows L2
abbrev twoUp (R : Addr) : List Value := [.ref R, .type "Exception", .type "BaseException", .type "object"]
section store
open Builtin Builtin.ObjectAttr
variable {prog : Program} {w : World} {A : Around} {E : Value → Shared → Prop} {R : Result → Shared → Prop} {hp : Heap} {g : Array GenState} {d : Drawn} {t : Nat} {os : OsState}
/-- self.number = v on an exception that has no dict yet: the way to its dict -/
theorem put_first {K : Frag} {nm : Str} {tk : Tok} {v : Value} {x C S : Addr} {arr : Array Value} {cd : ClassData} (KI : K.In hp) (hx : hp.get? x = some { cls := .ref C, data := .fields arr }) (hcd : clsIn K C = some cd)
    (hm : cd.mro = .ref C :: twoUp S) (hh : cd.hasDict = true) (hno : findIn K (.ref C) nm = some none)
    (hq : ∀ h' tk' dx, (∀ b o, b ≠ x → hp.get? b = some o → h'.get? b = some o) → hp.objs.size ≤ dx → dx ≠ x → h'.get? x = some { cls := .ref C, dict := some dx, data := .fields arr } → h'.Ns1 dx (fun y => if y = nm then some v else none) →
      R (.ok (.ret .none)) ⟨h', g, d, tk', os⟩) :
    codeAny (model prog w) A (.call (.builtin "object.__setattr__") ⟨[.ref x, .str nm tk, v], []⟩) R ⟨hp, g, d, t, os⟩ := by
  have J : InstAt hp x { cls := .ref C, data := .fields arr } C none := ⟨hx, rfl, rfl, trivial⟩
  have sf := F.store_object
  have inO : mroIn K C (.type "object") = some true := by
    unfold mroIn
    rw [hcd, Option.bind_some, hm]
    rfl
  have isO : Looks (model prog w) hp (isInstance (.ref x) (.type "object")) true := J.type.andThen (looks_mroIn KI inO)
  have lm : Looks (model prog w) hp (mroOf (.ref C)) cd.mro := (looks_clsIn KI hcd).andThen .now
  have lt : Looks (model prog w) hp (storeTaker? none) none := .now
  have lc : Looks (model prog w) hp (classData C) cd := looks_clsIn KI hcd
  have np : refuseLoop (.ref x) "__setattr__" cd.mro = pure () := by
    rw [hm, refuseLoop_ref, refuseLoop_ref]
    exact F.store_Exception.passes _
  have ne : x ≠ hp.objs.size := Nat.ne_of_lt (Heap.lt_size hx)
  refine codeAny_call_builtin sf.slot.plain sf.entry ?_
  refine @check_slot (model prog w) _ _ ⟨hp, g, d, t, os⟩ "object.__setattr__" "object" "__setattr__" (.ref x) [.str nm tk, v] [] _ sf.kind sf.split isO (sf.args (.ref x) (.str nm tk) v) ?_
  rw [osa_eq, refuse_eq]
  refine wpAny_bind (wpAny_bind (J.type.at (wpAny_bind (lm.at ?_))))
  rw [np]
  refine wpAny_pure (wpAny_bind (J.type.at (wpAny_bind ((looks_findIn KI hno).at (wpAny_bind (lt.at ?_))))))
  show wpAny _ _ (storeInOwnDict (.ref x) (.ref C) (.str nm tk) nm v false) _ _ _
  obtain ⟨x1, x2, x3, x4, x5, hd, x7, x8, x9, x10, x11⟩ := cd
  have hd1 : hd = true := hh
  subst hd1
  unfold storeInOwnDict ownDictForStores
  repeat (first | with_reducible refine lc.at ?_ | with_reducible refine HandSPX.store_in_new ?_ ?_ | with_reducible refine wpAny_loadPart_at hx ?_ | wp_step)
  · exact ⟨_, #[], _, (Heap.get?_update_ne _ _ _ _ ne.symm).trans (Heap.get?_push_at rfl rfl), rfl, fun e he => absurd he (by simp), fun _ => rfl⟩
  · intro h' tk' hn' sb
    have hx1 : (hp.push { cls := .type "dict", data := .dict #[] }).get? x = some { cls := .ref C, data := .fields arr } := Heap.get?_push_of_some _ hx
    refine hq h' tk' hp.objs.size (fun b o hb ho => ?_) (Nat.le_refl _) ne.symm ((sb.2 x ne).trans (Heap.get?_update_self _ hx1 rfl)) hn'
    exact (sb.2 b (Nat.ne_of_lt (Heap.lt_size ho))).trans ((Heap.get?_update_ne _ _ _ _ hb).trans (Heap.get?_push_of_some _ ho))
end store
/-- what the written part says of a refusal's class C, R the common base -/
structure XC (K : Frag) (C R : Addr) : Prop where
  cls : ∃ nm q N bs sn sub ab col dd k0 k1 k2 k3 k5, K.lookup C = some (excClassObj nm q C N bs (twoUp R) true sn sub ab col dd k0 k1 k2 k3 k5 "Exception.__new__")
  sa : findIn K (.ref C) "__setattr__" = some (some (.builtin "object.__setattr__"))
  tyC : typeIn K (.ref C) = some (.type "type")
  kC : keepIn K (.ref C) = true
  no : findIn K (.ref C) "number" = some none
  xf : XfC K C
  em : exmOne K (.ref C) (.ref R) = some true
theorem two_has (S : Addr) (X : String) : (twoUp S).contains (.type X) = ([.type "Exception", .type "BaseException", .type "object"] : List Value).contains (.type X) := by
  rw [List.contains_cons]
  rfl
def numD (n : Int) : List (Str × V) := [(("number" : Str), .int n)]
section
variable {X : Cx} {pins : List (Addr × Obj)} {σ : L2.St} {H : Hp} {s : Shared} {a C S : Addr} {E : Value → Shared → Prop} {A : Around}
theorem put_number {n : Int} {u : Value} {Q : Unit → Shared → Prop} (T : XC X.K C S) (I : Inv X pins σ H s) (e : H a = some (exo a C none)) (ru : RelV (.int n) u)
    (h : ∀ dx s', H dx = none → dx ≠ a → Inv X pins σ (upd (upd H dx (exd dx (numD n))) a (exo a C (some dx))) s' → Q () s') : wpAny (model X.prog X.w) A (setAttr (.ref a) "number" u) Q E s := by
  obtain ⟨nm, q, N, bs, sn, sub, ab, col, dd, k0, k1, k2, k3, k5, hC⟩ := T.cls
  obtain ⟨t1, ho⟩ := exo_at I.hok e
  obtain ⟨hp, g, d, t, os⟩ := s
  have hcl : clsIn X.K C = some { name := nm, bases := bs, mro := .ref C :: twoUp S, ns := N, qualname := q, hasDict := true, slotNames := sn, subclasses := sub, abstract := ab, collection := col, hasDel := false } := by
    unfold clsIn
    rw [hC]
  refine set_plain I.kIn (ox := { cls := .ref C, dict := none, data := .fields #[.ref t1, .none, .none, .none, .bool false, .none] }) (od := none) ⟨ho, rfl, rfl, trivial⟩ T.sa ?_
  refine put_first I.kIn ho hcl rfl rfl T.no fun h' tk' dx k dn dne hx hn => ?_
  have hnd : H dx = none := I.hok.fresh dn
  have hna : ∀ {b : Addr}, H b = none → b ≠ a := fun z y => by rw [y, e] at z; cases z
  have hdx : ∀ {b : Addr} {o : Obj}, hp.get? b = some o → b ≠ dx := fun z => Nat.ne_of_lt (Nat.lt_of_lt_of_le (Heap.lt_size z) dn)
  have other : ∀ {b : Addr} {o : HO}, H b = some o → b ≠ a → upd (upd H dx (exd dx (numD n))) a (exo a C (some dx)) b = some o := fun z ba => by
    rw [upd_ne ba, upd_ne (ne_of_none z hnd)]
    exact z
  have U : Un X.fs [] H (upd (upd H dx (exd dx (numD n))) a (exo a C (some dx))) hp h' :=
    { keep := fun b o z1 z2 _ _ => k b o (hna z2) z1
      slot := fun b o z1 z2 _ _ => ⟨o.slots, k b o (hna z2) z1⟩
      free := fun b o z1 z2 _ => by rw [upd_ne (hna z2), upd_ne (hdx z1)]; exact z2
      there := fun b o z _ => by
        by_cases ba : b = a
        · subst ba; exact ⟨_, hx⟩
        · exact ⟨o, k b o ba z⟩
      tups := fun b xs z => other z (at_ne e z exo_tup)
      frzs := fun b o v z => other z (at_ne e z exo_frz)
      tbls := fun b ps z => ⟨#[], by rw [other z (at_ne e z exo_tbl)]; simp⟩ }
  refine h dx _ hnd dne (I.un (t' := tk') U fun b o z => ?_)
  by_cases ba : b = a
  · subst ba
    rw [upd_same] at z
    cases z
    exact exo_ok hx
  rw [upd_ne ba] at z
  by_cases bd : b = dx
  · subst bd
    rw [upd_same] at z
    cases z
    exact exd_ok hn (relO_put (fs := []) ru fun _ => True.intro)
  rw [upd_ne bd] at z
  refine (I.hok b o z).stay (fun c v hc y => k c v ?_ y) (fun c hc => other hc (at_ne e hc exo_own)) fun c xs hc => other hc (at_ne e hc exo_tup)
  rcases hc with hc | hc
  · rw [hc]; exact ba
  · exact at_ne e hc exo_own
theorem base_init {us : List Value} {Q : Value → Shared → Prop} (T : XC X.K C S) (I : Inv X pins σ H s) (e : H a = some (exo a C none)) (hl : us.length ≤ sizeLine) (h : ∀ s', Inv X pins σ H s' → Q .none s') :
    wpAny (model X.prog X.w) A (call (.builtin "Exception.__init__") (.ref a :: us)) Q E s := by
  obtain ⟨nm, q, N, bs, sn, sub, ab, col, dd, k0, k1, k2, k3, k5, hC⟩ := T.cls
  obtain ⟨t1, ho⟩ := exo_at I.hok e
  obtain ⟨hp, g, d, t, os⟩ := s
  refine wpAny_call (HandSPX.init_base F.excBase_Exception (two_has S) (I.kIn _ _ hC) ho hl fun h' t2 k hx => ?_)
  have J := I.write (t' := t) (x := a) (e := a) (o := exo a C none) (by rw [e]; exact True.intro) (.inl rfl) k ⟨_, hx⟩ (exo_ok hx)
  have same : upd H a (exo a C none) = H := funext fun b => by
    by_cases ba : b = a
    · subst ba; rw [upd_same, e]
    · rw [upd_ne ba]
  rw [same] at J
  exact h _ J
end
/-! ### the two readings of an __init__ -/
section
variable {X : Cx} {o e : Expr} {es : List Expr} {to te : TE} {ta : TA} {p p' p1 p2 pos : Pos}
/-- Exception.__init__(self, ..) -/
def tExcI (K : Frag) (S : Addr) (ta : TA) : TE := fun σ H Q => ta σ H fun vs H1 => ∃ (a C : Addr) (ws : List V), vs = .ref a :: ws ∧ ws.length ≤ 1000 ∧ XC K C S ∧ H1 a = some (exo a C none) ∧ Q .non H1
theorem typ_Ex : typeOf (.type "Exception") = pure (.type "type") := by kernel_rfl
theorem pe_excI {pl : Sem Bool} {S : Addr} (hg : Gl X "Exception") (hm : X.mg "Exception" = none) (vV : findCls X.K (.type "Exception") (.type "type") "__init__" = some (.val (.builtin "Exception.__init__"))) (ha : PA X (e :: es) ta)
    (hc : eval (.Call (.Attribute (.Name "Exception" p1) "__init__" p2) (e :: es) [] pos) X.env = (do
      let ov ← eval (.Name "Exception" p1) X.env
      standAt p2.atName
      let (f, first) ← holding [ov] (getMethod ov "__init__" pl)
      callWith pos f first (backTo pos (starEach (e :: es) X.env)) (backToKw pos (keywordEach [] X.env))) := by rfl)
    (he : starEach (e :: es) X.env = (false, eval e X.env) :: starEach es X.env := by rfl) (hpl : (backTo pos (starEach es X.env)).any (·.1) = false := by rfl) :
    PE X (.Call (.Attribute (.Name "Exception" p1) "__init__" p2) (e :: es) [] pos) (tExcI X.K S ta) := by
  refine ⟨fun pins s σ H Q I h => ?_⟩
  obtain ⟨m, fr⟩ := I.fr
  refine methodCall_KW (ld_blt I hg hm PyProof.Rows.Boot.«Exception» ?_ (by decide) (by decide)) hc
  refine method_type fr I.ok.mod.kin typ_Ex (by decide +kernel) vV (by decide +kernel) ?_
  refine PyProof.Rows.callWith_method1 (thn (ha.run pos pins _ σ H _ (I.tok _) h) fun us s1 z => ?_) he hpl
  obtain ⟨vs, H1, I1, r1, a, C, ws, ev, hl, T, ea, q⟩ := z
  subst ev
  cases r1 with
  | @cons _ u0 _ ur ra rw' =>
    obtain rfl : u0 = Value.ref a := ra
    have hlen : ur.length ≤ sizeLine := by
      have := Paired.length rw'
      rw [sizeLine_eq]
      omega
    exact base_init T I1 ea hlen fun s' J => ⟨.non, H1, J, rfl, q⟩
/-- self.number = e, the first attribute -/
def tNum (K : Frag) (S : Addr) (to te : TE) : TS := fun D σ H => te σ H fun y H1 => to σ H1 fun x H2 => ∃ (a C : Addr) (n : Int), x = .ref a ∧ y = .int n ∧ XC K C S ∧ H2 a = some (exo a C none) ∧
  ∀ dx, H2 dx = none → dx ≠ a → D.nx σ (upd (upd H2 dx (exd dx (numD n))) a (exo a C (some dx)))
theorem ps_num {S : Addr} (ho : PE X o to) (he : PE X e te) (hs : swapsWith e (some (.Attribute o "number" p')) pos.line X.env = pure false := by rfl) : PS X (.Assign [.Attribute o "number" p'] e pos) (tNum X.K S to te) := by
  refine ⟨fun pins s σ H D I h => ?_⟩
  refine plainObj_wpAny_Assign_Attribute (thn (he.run pins s σ H _ I h) fun v s1 z1 => ?_) hs
  obtain ⟨y, H1, I1, r1, q1⟩ := z1
  refine thn (ho.run pins s1 σ H1 _ I1 q1) fun u s2 z2 => ?_
  obtain ⟨x, H2, I2, r2, a, C, n, ex, ey, T, ea, q⟩ := z2
  subst ex ey
  obtain rfl : u = Value.ref a := r2
  exact put_number T I2 ea r1 fun dx s' nd ne J => ⟨σ, _, J, q dx nd ne⟩
end
/-! ### raise C() -/
/-- what a refusal leaves: the error's own dict, new -/
def RaiseN (K : Frag) (S : Addr) (H : Hp) (E : XK) (n : Int) : Prop := ∀ (C : Addr) (H' : Hp) (d : Addr), XC K C S → Same H H' → H d = none → H' d = some (.xd (numD n)) → E (.ref C) (some d) H'
/-- __init__ of a class of refusals, called at a new exception -/
def spXI (K : Frag) (S : Addr) (n : Int) : Sp := fun vs H Q _ => ∃ a C : Addr, vs = [.ref a] ∧ XC K C S ∧ H a = some (exo a C none) ∧ ∀ d, H d = none → d ≠ a → Q .non (upd (upd H d (exd d (numD n))) a (exo a C (some d)))
structure XI (K : Frag) (C f : Addr) : Prop where
  iC : findIn K (.ref C) "__init__" = some (some (.ref f))
  tI : typeIn K (.ref f) = some (.type "function")
section
variable {X : Cx} {p pos pos2 : Pos}
def tMkN (C : Addr) (n : Int) : L2.St → Hp → XK → Prop := fun _ H Q => ∀ d, H d = none → Q (.ref C) (some d) (upd H d (.xd (numD n)))
theorem pmk_zero {CX : CXT} {x : Str} {C S fI : Addr} {k : Nat} {fd : FuncData} {ps : List Str} {n : Int} (T : XC X.K C S) (Y : XI X.K C fI) (F1 : FnOk X.prog X.w X.K X.mg X.base CX k fI fd ps (spXI X.K S n)) (hr : Room (k + 1) X.A) (hb : Binds X.K fd ps [])
    (hx : Passes CX X (fun _ _ _ => False)) (hg : Gl X x) (hm : X.mg x = some (.ref C)) (hdb : (x == ("__debug__" : Str)) = false := by decide) : PMk X (.Call (.Name x p) [] [] pos) (tMkN C n) := by
  intro pins s σ H Q I h
  obtain ⟨nm, q, N, bs, sn, sub, ab, col, dd, k0, k1, k2, k3, k5, hC⟩ := T.cls
  refine wpAny_Call_Name_kw (ld_glob I hg hm ?_ hdb)
  refine callWith_K0 I.kIn T.kC ?_
  show wpAny _ _ (call (.ref C) []) _ _ _
  obtain ⟨hp, g, dr, tk, os⟩ := s
  have ge : hp.objs.size ≤ hp.objs.size + 1 := Nat.le_succ _
  have hn : H (hp.objs.size + 1) = none := I.hok.fresh ge
  have old : ∀ b o, hp.get? b = some o → ((hp.push (kdv_tup [])).push (HandSPX.excO C hp.objs.size)).get? b = some o := fun b o z => Heap.get?_push_of_some _ (Heap.get?_push_of_some _ z)
  have at1 : ((hp.push (kdv_tup [])).push (HandSPX.excO C hp.objs.size)).get? (hp.objs.size + 1) = some (HandSPX.excO C hp.objs.size) := by heap_get
  have I2 : Inv X pins σ (upd H (hp.objs.size + 1) (exo (hp.objs.size + 1) C none)) ⟨(hp.push (kdv_tup [])).push (HandSPX.excO C hp.objs.size), g, dr, tk, os⟩ :=
    I.laid (t' := tk) (a := hp.objs.size + 1) (o := exo (hp.objs.size + 1) C none) (h' := (hp.push (kdv_tup [])).push (HandSPX.excO C hp.objs.size)) old ge (exo_ok at1)
  have sp : spXI X.K S n [.ref (hp.objs.size + 1)] (upd H (hp.objs.size + 1) (exo (hp.objs.size + 1) C none))
      (fun v H2 => v = .non ∧ ∃ d, H2 (hp.objs.size + 1) = some (exo (hp.objs.size + 1) C (some d)) ∧ H2 d = some (exd d (numD n)) ∧ H d = none ∧ Q (.ref C) (some d) (upd (del H2 (hp.objs.size + 1)) d (.xd (numD n)))) (fun _ _ _ => False) := by
    refine ⟨_, C, rfl, T, upd_same, fun d hd hda => ⟨rfl, d, upd_same, ?_, ?_, ?_⟩⟩
    · rw [upd_ne hda, upd_same]
    · rw [upd_ne hda] at hd; exact hd
    · rw [upd_ne hda] at hd
      have z := h d hd
      have e : upd (del (upd (upd (upd H (hp.objs.size + 1) (exo (hp.objs.size + 1) C none)) d (exd d (numD n))) (hp.objs.size + 1) (exo (hp.objs.size + 1) C (some d))) (hp.objs.size + 1)) d (.xd (numD n)) = upd H d (.xd (numD n)) := funext fun b => by
        by_cases bd : b = d
        · subst bd; rw [upd_same, upd_same]
        · rw [upd_ne bd, upd_ne bd]
          by_cases ba : b = hp.objs.size + 1
          · subst ba; rw [del_same, hn]
          · rw [del_ne ba, upd_ne ba, upd_ne bd, upd_ne ba]
      rw [e]
      exact z
  have r2 : Vals [V.ref (hp.objs.size + 1)] [Value.ref (hp.objs.size + 1)] := .cons rfl .nil
  have hl : ([Value.ref (hp.objs.size + 1)] ++ [] : List Value).length = ps.length := by
    have z := r2.length
    rw [F1.len _ _ _ _ sp] at z
    rw [z]
    rfl
  refine wpAny_call (HandSPX.call_own F.excBase_Exception (two_has S) (I.kIn _ _ hC) (looks_findIn I.kIn Y.iC) (fun self => bind_fn I.kIn self Y.tI) (by rw [sizeLine_eq]; exact Nat.zero_le _) ?_)
  refine codeAny_mono (F1.run _ X.stack _ _ ⟨[Value.ref (hp.objs.size + 1)], []⟩ [Value.ref (hp.objs.size + 1)] _ _ (fun _ _ _ => False) (hr.make C [] []) (I2.env0.make C [] []) (hb _ [Value.ref (hp.objs.size + 1)] I2.kIn hl) r2 sp) fun r s' hq' => ?_
  match r, hq' with
  | .error er, hq' => exact hx pins σ _ _ er s' I2 hq'
  | .ok (.ret u), hq' =>
    obtain ⟨v, H2, os2, bare2, un2, hok2, rv, ev, d, ea, ed, hd1, q2⟩ := hq'
    subst ev
    obtain ⟨h2, g2, d2, t2, os'⟩ := s'
    exact ⟨rv, mk_end (raises_own T.xf.exC T.tyC) I ge old un2 hok2 os2 bare2 ea ed hd1 q2⟩
/-- raise C() -/
theorem ps_raiseR {W : WX} {CX : CXT} {x : Str} {C S fI : Addr} {k : Nat} {fd : FuncData} {ps : List Str} {n : Int} (hc : X.calm = true) (T : XC X.K C S) (Y : XI X.K C fI) (F1 : FnOk X.prog X.w X.K X.mg X.base CX k fI fd ps (spXI X.K S n)) (hr : Room (k + 1) X.A) (hb : Binds X.K fd ps [])
    (hx : Passes CX X (fun _ _ _ => False)) (hg : Gl X x) (hm : X.mg x = some (.ref C)) (tk : Takes X W) (hdb : (x == ("__debug__" : Str)) = false := by decide) :
    PS X (.Raise (some (.Call (.Name x p) [] [] pos)) none pos2) (fun _ σ H => tMkN C n σ H fun cls d H' => W cls d σ H') := ps_raise hc tk (pmk_zero T Y F1 hr hb hx hg hm hdb)
end
theorem RaiseN.now {K : Frag} {S C : Addr} {H : Hp} {E : XK} {n : Int} (k : RaiseN K S H E n) (T : XC K C S) : ∀ d, H d = none → E (.ref C) (some d) (upd H d (.xd (numD n))) := fun d hd =>
  k C _ d T (fun b o z => by rw [upd_ne (ne_of_none z hd)]; exact z) hd upd_same
theorem RaiseN.later {K : Frag} {S : Addr} {H H1 : Hp} {E : XK} {n : Int} (k : RaiseN K S H E n) (e : Same H H1) : RaiseN K S H1 E n := fun C H' d T e2 hd hd2 => k C H' d T (e.trans e2) (e.free hd) hd2
/-! ### e.number in the except suite, e of any class of refusals -/
def tNumF (K : Frag) (S a : Addr) (cls : Value) (d : Option Addr) (te : TE) : TE := fun σ H Q => te σ H fun x H1 => x = .ref a ∧ ∃ (C dd : Addr) (n : Int), cls = .ref C ∧ XC K C S ∧ d = some dd ∧ H1 dd = some (.xd (numD n)) ∧ Q (.int n) H1
theorem pe_numF {X : Cx} {a S : Addr} {oe : Obj} {cls : Value} {d : Option Addr} {pn : List (Addr × Obj)} {e : Expr} {te : TE} {pos : Pos} (hz : Zc cls d oe) (hf : ∃ vs, oe.data = .fields vs) (he : PE (X.suite a ((a, oe) :: pn)) e te)
    (hb : attributeBase e "number" X.env (eval e X.env) = eval e X.env := by rfl) : PE (X.suite a ((a, oe) :: pn)) (.Attribute e "number" pos) (tNumF X.K S a cls d te) := by
  refine ⟨fun pins s σ H Q I h => ?_⟩
  refine attr_of hb (thn (he.run pins s σ H _ I h) fun u s1 z => ?_)
  obtain ⟨x, H1, I1, rx, ex, C, dd, n, ec, T, ed, ea, q⟩ := z
  subst ex ec ed
  obtain rfl : u = Value.ref a := rx
  obtain ⟨ga, _⟩ := I1.pin (a, oe) (List.mem_append_left _ List.mem_cons_self)
  obtain ⟨arr, hd⟩ := hf
  have hx : ObjOk X.prog X.w H1 s1.heap dd (.xd (numD n)) := I1.hok dd _ ea
  obtain ⟨mA, hns, hrel⟩ := hx
  obtain ⟨od, ho, hl⟩ := lookIn_ns hns
  have lk : List.lookup ("number" : Str) (numD n) = some (.int n) := by simp [numD, List.lookup]
  obtain ⟨v, hv, rv⟩ := RelO.some_of (v := V.int n) (o := mA "number") (by rw [← lk]; exact hrel "number")
  have J : InstAt s1.heap a oe C (some od) := ⟨ga, hz.1, by unfold notCls; rw [hd] <;> rfl, by rw [hz.2]; exact ho⟩
  exact HandSPX.exc_get I1.kIn J T.xf.ga T.xf.gg T.xf.exC (findObj_own T.xf.hdC T.no rfl (by rw [hl, hv])) (handed_of rv) ⟨.int n, H1, I1.tok _, rv, q⟩
end Lc
set_option Elab.async false
set_option linter.all false
set_option maxRecDepth 100000
set_option maxHeartbeats 4000000
/-! A method's call within a try. -/
namespace Lc
open PySem PySem.Spec PyProof.Rows L2
/-- o.m(e, ..) whose error the try around it takes: the wish is at the slots as they stand -/
def tMethT (C : Addr) (m : Str) (sp : Sp) (E : L2.St → XK) (to : TE) (ta : TA) : TE := fun σ H Q =>
  to σ H fun x H1 => ∃ (a dx : Addr) (fs : List (Str × V)), x = .ref a ∧ H1 a = some (.ins C dx fs) ∧ fs.lookup m = none ∧ ta σ H1 fun vs H2 => sp (x :: vs) H2 Q (E σ)
section
variable {X : Cx} {CX : CXT} {k : Nat} {f C : Addr} {fd : FuncData} {ps : List Str} {sp : Sp} {E : L2.St → XK} {m : Str} {pos apos : Pos} {e o : Expr} {es : List Expr} {to : TE} {ta : TA} {pl : Sem Bool}
theorem pe_methT (ho : PE X o to) (c : Cls X.K C) (hm : Meth X.K C m f) (F : FnOk X.prog X.w X.K X.mg X.base CX k f fd ps sp) (hr : Room k X.A) (hb : Binds X.K fd ps []) (hx : ∀ σ, PassesAt CX X σ (E σ)) (ha : PA X (e :: es) ta)
    (h1 : starEach (e :: es) X.env = (false, eval e X.env) :: starEach es X.env := by rfl) (h2 : (backTo pos (starEach es X.env)).any (·.1) = false := by rfl)
    (h3 : eval (.Call (.Attribute o m apos) (e :: es) [] pos) X.env = (do
      let ov ← eval o X.env
      standAt apos.atName
      let (f, first) ← holding [ov] (getMethod ov m pl)
      callWith pos f first (backTo pos (starEach (e :: es) X.env)) (backToKw pos (keywordEach [] X.env))) := by rfl) :
    PE X (.Call (.Attribute o m apos) (e :: es) [] pos) (tMethT C m sp E to ta) :=
  ⟨fun pins s σ H Q I h => PySem.W.methodCall_KW (pl := pl) (thn (ho.run pins s σ H _ I h) fun u s1 z => by
    obtain ⟨x, H1, I1, rx, a, dx, fs, ex, ea, l, q⟩ := z
    subst ex
    obtain rfl : u = Value.ref a := rx
    refine getmeth_ok I1 ea c hm l (PySem.W.callWith_K (first := [.ref a]) (h₀ := X.base) I.ok.mod.kin hm.kp (thn (ha.run pos pins s1 σ H1 _ I1 q) fun us s2 z2 => ?_) h1 h2)
    obtain ⟨vs, H2, I2, r, q2⟩ := z2
    exact ⟨I2.kIn, run_fnS (us := .ref a :: us) (vs := .ref a :: vs) F hr hb (hx σ) I2 (.cons rfl r) q2⟩) h3⟩
end
end Lc
set_option Elab.async false
set_option linter.all false
set_option maxRecDepth 100000
set_option maxHeartbeats 4000000
/-! An expression that knows nothing of a list: the list is as it was behind it. -/
namespace Lc
open PySem PySem.Spec PyProof.Rows L2
section
variable {X : Cx} {pins : List (Addr × Obj)} {σ : L2.St} {H H' : Hp} {s s' : Shared} {R : Addr} {xs : List V} {ob : Obj}
theorem hide (I : Inv X pins σ H s) (e : H R = some (.lst xs)) (hb : s.heap.get? R = some ob) (hc : ∀ v, ob.data ≠ .cell v) (nfs : R ∉ X.fs) : Inv X ((R, ob) :: pins) σ (del H R) s := by
  have ne : ∀ {b : Addr} {o : HO}, H b = some o → (∀ ys, o ≠ .lst ys) → b ≠ R := fun z y w => by
    rw [w, e] at z
    exact y xs (Option.some.inj z).symm
  have none_of : ∀ {b : Addr}, H b = none → del H R b = none := fun {b} z => by
    by_cases y : b = R
    · rw [y, del_same]
    · rw [del_ne y]; exact z
  refine ⟨I.ok, I.os, I.bare, ⟨I.base.keep, I.base.slot, fun b o z1 z2 z3 => none_of (I.base.free b o z1 z2 z3), I.base.there, fun b ys z => ?_, fun b o u z => ?_, fun b ps z => ?_⟩, I.loc, I.cell, none_of I.free, fun x c z => none_of (I.freeC x c z), fun p hp => ?_, fun b o z => ?_, I.len⟩
  · have q := I.base.tups b ys z
    rw [del_ne (ne q nofun)]; exact q
  · have q := I.base.frzs b o u z
    rw [del_ne (ne q nofun)]; exact q
  · obtain ⟨more, q⟩ := I.base.tbls b ps z
    exact ⟨more, by rw [del_ne (ne q nofun)]; exact q⟩
  · rcases List.mem_append.mp hp with hp | hp
    · obtain ⟨p1, p2, p3⟩ := I.pin p (List.mem_append_left _ hp)
      exact ⟨p1, none_of p2, p3⟩
    · rcases List.mem_cons.mp hp with y | hp
      · rw [y]
        exact ⟨hb, del_same, fun z => (by have f := I.free; have z' : R = X.env.locals := z; rw [← z', e] at f; cases f), nfs, hc⟩
      · obtain ⟨p1, p2, p3⟩ := I.pin p (List.mem_append_right _ hp)
        exact ⟨p1, none_of p2, p3⟩
  · by_cases y : b = R
    · rw [y, del_same] at z; cases z
    · rw [del_ne y] at z
      exact (I.hok b o z).stay (fun _ _ _ q => q) (fun c q => by rw [del_ne (ne q nofun)]; exact q) fun c ys q => by rw [del_ne (ne q nofun)]; exact q
theorem unhide (I : Inv X pins σ H s) (e : H R = some (.lst xs)) (J : Inv X ((R, ob) :: pins) σ H' s') (hx : ∀ h : Heap, h.get? R = some ob → ObjOk X.prog X.w (upd H' R (.lst xs)) h R (.lst xs)) : Inv X pins σ (upd H' R (.lst xs)) s' := by
  obtain ⟨g1, g2, _⟩ := J.pin (R, ob) (List.mem_append_right _ List.mem_cons_self)
  have none_of : ∀ {b : Addr}, H b = none → H' b = none → upd H' R (.lst xs) b = none := fun {b} z y => by
    rw [upd_ne (fun w => by rw [w, e] at z; cases z)]; exact y
  refine ⟨J.ok, J.os, J.bare, ⟨J.base.keep, J.base.slot, fun b o z1 z2 z3 => none_of (I.base.free b o z1 z2 z3) (J.base.free b o z1 z2 z3), J.base.there, fun b ys z => ?_, fun b o u z => ?_, fun b ps z => ?_⟩, J.loc, J.cell, none_of I.free J.free, fun x c z => none_of (I.freeC x c z) (J.freeC x c z), fun p hp => ?_, fun b o z => ?_, J.len⟩
  · have q := J.base.tups b ys z
    rw [upd_ne (ne_of_none q g2)]; exact q
  · have q := J.base.frzs b o u z
    rw [upd_ne (ne_of_none q g2)]; exact q
  · obtain ⟨more, q⟩ := J.base.tbls b ps z
    exact ⟨more, by rw [upd_ne (ne_of_none q g2)]; exact q⟩
  · have hp2 : p ∈ X.pn ++ (R, ob) :: pins := by
      rcases List.mem_append.mp hp with y | y
      · exact List.mem_append_left _ y
      · exact List.mem_append_right _ (List.mem_cons_of_mem _ y)
    obtain ⟨p1, p2, p3⟩ := J.pin p hp2
    exact ⟨p1, none_of (I.pin p hp).2.1 p2, p3⟩
  · by_cases y : b = R
    · rw [y] at z ⊢
      rw [upd_same] at z
      cases z
      exact hx _ g1
    · rw [upd_ne y] at z
      exact (J.hok b o z).stay (fun _ _ _ q => q) (fun c q => by rw [upd_ne (ne_of_none q g2)]; exact q) fun c ys q => by rw [upd_ne (ne_of_none q g2)]; exact q
end
/-- e at a heap without the list at R -/
def tFr (te : TE) : TE := fun σ H Q => ∃ (R : Addr) (xs : List V), H R = some (.lst xs) ∧ te σ (del H R) fun v H' => H' R = none → Q v (upd H' R (.lst xs))
theorem pe_fr {X : Cx} {e : Expr} {te : TE} (he : PE X e te) : PE X e (tFr te) := by
  refine ⟨fun pins s σ H Q I h => ?_⟩
  obtain ⟨R, xs, e1, h⟩ := h
  obtain ⟨z, its, n, r, g⟩ := I.hok R _ e1
  have nfs : R ∉ X.fs := fun hb => by
    obtain ⟨_, o, ho, _⟩ := I.ok.funs.mem hb
    have f := I.base.free R o ho (I.ok.frf R hb) fun z => I.ok.exfs R z hb
    rw [e1] at f
    cases f
  refine thn (he.run _ s σ (del H R) _ (hide I e1 g (fun v => by nofun) nfs) h) fun u s1 y => ?_
  obtain ⟨v, H1, J, rv, q⟩ := y
  obtain ⟨g1, g2, _⟩ := J.pin (R, _) (List.mem_append_right _ List.mem_cons_self)
  exact ⟨v, _, unhide I e1 J (fun h hh => ⟨z, its, n, r, hh⟩), rv, q g2⟩
end Lc
set_option Elab.async false
set_option linter.all false
set_option maxRecDepth 100000
set_option maxHeartbeats 4000000
/-! Rules within a comprehension: the written part by its own name. -/
namespace Lc
open PySem PySem.Spec PyProof.Rows L2
section
variable {X : Cx} {K : PySem.W.Frag} {e : Expr} {f : Str} {pos : Pos} {ta : TE}
theorem pe_fldK (hK : X.K = K) (he : PE X e ta) (hb : attributeBase e f X.env (eval e X.env) = eval e X.env) : PE X (.Attribute e f pos) (tFld K ta f) := hK ▸ pe_fld he hb
theorem ix_listK (hK : X.K = K) : IxR X (rIxL K) := hK ▸ ix_list
theorem ix_tupK (hK : X.K = K) : IxR X (rIxT K) := hK ▸ ix_tup
theorem call_lenK (hK : X.K = K) : CallR X (.builtin "len") (fun xs H Q => ∃ p ys, xs = [.ref p] ∧ (SqL K H p ys ∨ SqT K H p ys) ∧ Q (.int ys.length) H) := hK ▸ call_len_seq
/-- an f-string of several parts -/
def tFs (ts : List TE) : TE := fun σ H Q => tJs ts Str.empty σ H fun out H1 => Q (.str out) H1
theorem pe_fs {v1 v2 : Expr} {rest : List Expr} {ts : List TE} (h : PJ X (v1 :: v2 :: rest) ts) : PE X (.JoinedStr (v1 :: v2 :: rest) pos) (tFs ts) := pe_joined h
theorem pg_tupK {es : List Expr} {k : Nat} {t : TGs} {n : Nat} (hK : X.K = K) (hc : X.calm = true) (h : PGs X es t)
    (hn : (assignEach es X.env).length = n := by rfl) (hst : (assignEach es X.env).findIdx? (·.1) = none := by rfl) : PG X (.Tuple es k pos) (gTup K n t) := hK ▸ pg_tup hc h hn hst
end
/-- a comprehension over enumerate(xs): the list stands, each pair is a new tuple -/
theorem lc_enum {K : PySem.W.Frag} {a : Addr} {xs : List V} {g : TG} {tt : TT} {te : TE} {vs : List Nat} {σ : L2.St} {H1 : Hp} {D : Addr} {Qd : Hp → Prop} (Pv : Nat → Hp → Prop) (h0 : Pv 0 (upd H1 D (.lst []))) (hl : ∀ i H, i ≤ xs.length → Pv i H → SqL K H a xs)
    (hs : ∀ i x H T, xs[i]? = some x → Pv i H → H T = none → g (.ref T) (wipe σ vs) (upd H T (.tup [.int (i : Nat), x])) fun σ2 H2 => wipe σ2 vs = wipe σ vs ∧ tt σ2 H2 fun b H3 =>
      if b = true then te σ2 H3 fun y H4 => ∃ acc, H4 D = some (.lst acc) ∧ acc.length < sizeLine ∧ Pv (i + 1) (upd H4 D (.lst (acc ++ [y]))) else Pv (i + 1) H3) (hd : ∀ H, Pv xs.length H → Qd H) :
    ∃ W : Nat → Nat → Hp → Prop, (∃ m, W 0 m (upd H1 D (.lst []))) ∧ ∀ i m H, W i m H →
      ((Ite K a).stop i H ∧ Qd H) ∨ ((Ite K a).go i H ∧ ∃ Nx : Hp → Prop, (∀ H', Nx H' → ∃ m', m' < m ∧ W (i + 1) m' H') ∧ ∀ x H', (Ite K a).yld i H x H' → g x (wipe σ vs) H' fun σ2 H2 => wipe σ2 vs = wipe σ vs ∧ tt σ2 H2 fun b H3 =>
        if b = true then te σ2 H3 fun y H4 => ∃ acc, H4 D = some (.lst acc) ∧ acc.length < sizeLine ∧ Nx (upd H4 D (.lst (acc ++ [y]))) else Nx H3) :=
  lc_it walk_enum Pv h0 hl (fun i x H H' hi p y => by
    obtain ⟨T, x1, z, e1, e2, e3, e4, e5⟩ := y
    obtain rfl := Option.some.inj e4
    subst e1 e3
    exact hs i z H T e5 p e2) hd
end Lc
set_option Elab.async false
set_option linter.all false
set_option maxRecDepth 100000
set_option maxHeartbeats 4000000
/-! The places of the defs, and what the top has written (made by gen.py). -/
namespace Lc
open PySem PySem.Spec PyProof.Rows L2
def top (i : Nat) : Stmt := PySem.Challenge.pw_linecode_s01_answers.main.body.getD i (.Pass ⟨0, 0, 0, 0⟩)
abbrev s_Program_init : Stmt := inClass (top 9) 0
abbrev N_Program_init : List Str := ["self", "inputs", "lines", "outs"]
abbrev P_Program_init : List Str := ["self", "inputs", "lines", "outs"]
theorem sc_Program_init : FnScope N_Program_init P_Program_init (defScope s_Program_init) := ⟨rfl, rfl, rfl, by decide +kernel, rfl, by decide +kernel, by decide +kernel⟩
abbrev s_Draft_init : Stmt := inClass (top 10) 0
abbrev N_Draft_init : List Str := ["self", "program"]
abbrev P_Draft_init : List Str := ["self", "program"]
theorem sc_Draft_init : FnScope N_Draft_init P_Draft_init (defScope s_Draft_init) := ⟨rfl, rfl, rfl, by decide +kernel, rfl, by decide +kernel, by decide +kernel⟩
abbrev s_Draft_put : Stmt := inClass (top 10) 1
abbrev N_Draft_put : List Str := ["self", "line"]
abbrev P_Draft_put : List Str := ["self", "line"]
theorem sc_Draft_put : FnScope N_Draft_put P_Draft_put (defScope s_Draft_put) := ⟨rfl, rfl, rfl, by decide +kernel, rfl, by decide +kernel, by decide +kernel⟩
abbrev s_is_operation : Stmt := top 11
abbrev N_is_operation : List Str := ["line"]
abbrev P_is_operation : List Str := ["line"]
theorem sc_is_operation : FnScope N_is_operation P_is_operation (defScope s_is_operation) := ⟨rfl, rfl, rfl, by decide +kernel, rfl, by decide +kernel, by decide +kernel⟩
abbrev s_made_of : Stmt := top 12
abbrev N_made_of : List Str := ["line"]
abbrev P_made_of : List Str := ["line"]
theorem sc_made_of : FnScope N_made_of P_made_of (defScope s_made_of) := ⟨rfl, rfl, rfl, by decide +kernel, rfl, by decide +kernel, by decide +kernel⟩
abbrev s_operations : Stmt := top 13
abbrev N_operations : List Str := ["program", "line"]
abbrev P_operations : List Str := ["program"]
theorem sc_operations : FnScope N_operations P_operations (defScope s_operations) := ⟨rfl, rfl, rfl, by decide +kernel, rfl, by decide +kernel, by decide +kernel⟩
abbrev s_told : Stmt := top 14
abbrev N_told : List Str := ["program", "numbers", "line"]
abbrev P_told : List Str := ["program"]
theorem sc_told : FnScope N_told P_told (defScope s_told) := ⟨rfl, rfl, rfl, by decide +kernel, rfl, by decide +kernel, by decide +kernel⟩
abbrev s_WeightDraft_init : Stmt := inClass (top 16) 0
abbrev N_WeightDraft_init : List Str := ["self", "program", "line"]
abbrev P_WeightDraft_init : List Str := ["self", "program"]
theorem sc_WeightDraft_init : FnScope N_WeightDraft_init P_WeightDraft_init (defScope s_WeightDraft_init) := ⟨rfl, rfl, rfl, by decide +kernel, rfl, by decide +kernel, by decide +kernel⟩
abbrev s_WeightDraft_weigh : Stmt := inClass (top 16) 1
abbrev N_WeightDraft_weigh : List Str := ["self", "i", "x", "holder"]
abbrev P_WeightDraft_weigh : List Str := ["self", "i", "x"]
theorem sc_WeightDraft_weigh : FnScope N_WeightDraft_weigh P_WeightDraft_weigh (defScope s_WeightDraft_weigh) := ⟨rfl, rfl, rfl, by decide +kernel, rfl, by decide +kernel, by decide +kernel⟩
abbrev s_WeightDraft_weigh_outs : Stmt := inClass (top 16) 2
abbrev N_WeightDraft_weigh_outs : List Str := ["self", "program", "o", "out"]
abbrev P_WeightDraft_weigh_outs : List Str := ["self", "program"]
theorem sc_WeightDraft_weigh_outs : FnScope N_WeightDraft_weigh_outs P_WeightDraft_weigh_outs (defScope s_WeightDraft_weigh_outs) := ⟨rfl, rfl, rfl, by decide +kernel, rfl, by decide +kernel, by decide +kernel⟩
abbrev s_WeightDraft_pass_on : Stmt := inClass (top 16) 3
abbrev N_WeightDraft_pass_on : List Str := ["self", "i", "line", "b", "kind"]
abbrev P_WeightDraft_pass_on : List Str := ["self", "i", "line"]
theorem sc_WeightDraft_pass_on : FnScope N_WeightDraft_pass_on P_WeightDraft_pass_on (defScope s_WeightDraft_pass_on) := ⟨rfl, rfl, rfl, by decide +kernel, rfl, by decide +kernel, by decide +kernel⟩
abbrev s_WeightDraft_pass_on_quotient : Stmt := inClass (top 16) 4
abbrev N_WeightDraft_pass_on_quotient : List Str := ["self", "i", "line", "b", "q", "part"]
abbrev P_WeightDraft_pass_on_quotient : List Str := ["self", "i", "line", "b"]
theorem sc_WeightDraft_pass_on_quotient : FnScope N_WeightDraft_pass_on_quotient P_WeightDraft_pass_on_quotient (defScope s_WeightDraft_pass_on_quotient) := ⟨rfl, rfl, rfl, by decide +kernel, rfl, by decide +kernel, by decide +kernel⟩
abbrev s_WeightDraft_put_sum : Stmt := inClass (top 16) 5
abbrev N_WeightDraft_put_sum : List Str := ["self", "taken", "total", "x"]
abbrev P_WeightDraft_put_sum : List Str := ["self", "taken"]
theorem sc_WeightDraft_put_sum : FnScope N_WeightDraft_put_sum P_WeightDraft_put_sum (defScope s_WeightDraft_put_sum) := ⟨rfl, rfl, rfl, by decide +kernel, rfl, by decide +kernel, by decide +kernel⟩
abbrev s_WeightDraft_gather : Stmt := inClass (top 16) 6
abbrev N_WeightDraft_gather : List Str := ["self", "program", "takings", "i", "line", "k", "taken"]
abbrev P_WeightDraft_gather : List Str := ["self", "program"]
theorem sc_WeightDraft_gather : FnScope N_WeightDraft_gather P_WeightDraft_gather (defScope s_WeightDraft_gather) := ⟨rfl, rfl, rfl, by decide +kernel, rfl, by decide +kernel, by decide +kernel⟩
abbrev s_backward : Stmt := top 17
abbrev N_backward : List Str := ["program", "draft", "i", "outs"]
abbrev P_backward : List Str := ["program"]
theorem sc_backward : FnScope N_backward P_backward (defScope s_backward) := ⟨rfl, rfl, rfl, by decide +kernel, rfl, by decide +kernel, by decide +kernel⟩
abbrev s_ChangeDraft_init : Stmt := inClass (top 19) 0
abbrev N_ChangeDraft_init : List Str := ["self", "program"]
abbrev P_ChangeDraft_init : List Str := ["self", "program"]
theorem sc_ChangeDraft_init : FnScope N_ChangeDraft_init P_ChangeDraft_init (defScope s_ChangeDraft_init) := ⟨rfl, rfl, rfl, by decide +kernel, rfl, by decide +kernel, by decide +kernel⟩
abbrev s_ChangeDraft_put_change : Stmt := inClass (top 19) 1
abbrev N_ChangeDraft_put_change : List Str := ["self", "i", "line", "kind", "change"]
abbrev P_ChangeDraft_put_change : List Str := ["self", "i", "line"]
theorem sc_ChangeDraft_put_change : FnScope N_ChangeDraft_put_change P_ChangeDraft_put_change (defScope s_ChangeDraft_put_change) := ⟨rfl, rfl, rfl, by decide +kernel, rfl, by decide +kernel, by decide +kernel⟩
abbrev s_ChangeDraft_opposite_of : Stmt := inClass (top 19) 2
abbrev N_ChangeDraft_opposite_of : List Str := ["self", "change"]
abbrev P_ChangeDraft_opposite_of : List Str := ["self", "change"]
theorem sc_ChangeDraft_opposite_of : FnScope N_ChangeDraft_opposite_of P_ChangeDraft_opposite_of (defScope s_ChangeDraft_opposite_of) := ⟨rfl, rfl, rfl, by decide +kernel, rfl, by decide +kernel, by decide +kernel⟩
abbrev s_ChangeDraft_change_of_sum : Stmt := inClass (top 19) 3
abbrev N_ChangeDraft_change_of_sum : List Str := ["self", "first", "second"]
abbrev P_ChangeDraft_change_of_sum : List Str := ["self", "first", "second"]
theorem sc_ChangeDraft_change_of_sum : FnScope N_ChangeDraft_change_of_sum P_ChangeDraft_change_of_sum (defScope s_ChangeDraft_change_of_sum) := ⟨rfl, rfl, rfl, by decide +kernel, rfl, by decide +kernel, by decide +kernel⟩
abbrev s_ChangeDraft_change_of_difference : Stmt := inClass (top 19) 4
abbrev N_ChangeDraft_change_of_difference : List Str := ["self", "first", "second"]
abbrev P_ChangeDraft_change_of_difference : List Str := ["self", "first", "second"]
theorem sc_ChangeDraft_change_of_difference : FnScope N_ChangeDraft_change_of_difference P_ChangeDraft_change_of_difference (defScope s_ChangeDraft_change_of_difference) := ⟨rfl, rfl, rfl, by decide +kernel, rfl, by decide +kernel, by decide +kernel⟩
abbrev s_ChangeDraft_change_of_product : Stmt := inClass (top 19) 5
abbrev N_ChangeDraft_change_of_product : List Str := ["self", "j", "k", "first", "second"]
abbrev P_ChangeDraft_change_of_product : List Str := ["self", "j", "k"]
theorem sc_ChangeDraft_change_of_product : FnScope N_ChangeDraft_change_of_product P_ChangeDraft_change_of_product (defScope s_ChangeDraft_change_of_product) := ⟨rfl, rfl, rfl, by decide +kernel, rfl, by decide +kernel, by decide +kernel⟩
abbrev s_ChangeDraft_change_of_quotient : Stmt := inClass (top 19) 6
abbrev N_ChangeDraft_change_of_quotient : List Str := ["self", "v", "j", "k", "first", "second"]
abbrev P_ChangeDraft_change_of_quotient : List Str := ["self", "v", "j", "k"]
theorem sc_ChangeDraft_change_of_quotient : FnScope N_ChangeDraft_change_of_quotient P_ChangeDraft_change_of_quotient (defScope s_ChangeDraft_change_of_quotient) := ⟨rfl, rfl, rfl, by decide +kernel, rfl, by decide +kernel, by decide +kernel⟩
abbrev s_ChangeDraft_divided : Stmt := inClass (top 19) 7
abbrev N_ChangeDraft_divided : List Str := ["self", "change", "k"]
abbrev P_ChangeDraft_divided : List Str := ["self", "change", "k"]
theorem sc_ChangeDraft_divided : FnScope N_ChangeDraft_divided P_ChangeDraft_divided (defScope s_ChangeDraft_divided) := ⟨rfl, rfl, rfl, by decide +kernel, rfl, by decide +kernel, by decide +kernel⟩
abbrev s_ChangeDraft_put_out : Stmt := inClass (top 19) 8
abbrev N_ChangeDraft_put_out : List Str := ["self", "out"]
abbrev P_ChangeDraft_put_out : List Str := ["self", "out"]
theorem sc_ChangeDraft_put_out : FnScope N_ChangeDraft_put_out P_ChangeDraft_put_out (defScope s_ChangeDraft_put_out) := ⟨rfl, rfl, rfl, by decide +kernel, rfl, by decide +kernel, by decide +kernel⟩
abbrev s_forward : Stmt := top 20
abbrev N_forward : List Str := ["program", "draft", "i", "line", "outs", "out"]
abbrev P_forward : List Str := ["program"]
theorem sc_forward : FnScope N_forward P_forward (defScope s_forward) := ⟨rfl, rfl, rfl, by decide +kernel, rfl, by decide +kernel, by decide +kernel⟩
abbrev s_common_divisor : Stmt := top 22
abbrev N_common_divisor : List Str := ["a", "b", "rest"]
abbrev P_common_divisor : List Str := ["a", "b"]
theorem sc_common_divisor : FnScope N_common_divisor P_common_divisor (defScope s_common_divisor) := ⟨rfl, rfl, rfl, by decide +kernel, rfl, by decide +kernel, by decide +kernel⟩
abbrev s_lowest : Stmt := top 23
abbrev N_lowest : List Str := ["above", "below", "divisor"]
abbrev P_lowest : List Str := ["above", "below"]
theorem sc_lowest : FnScope N_lowest P_lowest (defScope s_lowest) := ⟨rfl, rfl, rfl, by decide +kernel, rfl, by decide +kernel, by decide +kernel⟩
abbrev s_weight : Stmt := top 24
abbrev N_weight : List Str := ["a"]
abbrev P_weight : List Str := ["a"]
theorem sc_weight : FnScope N_weight P_weight (defScope s_weight) := ⟨rfl, rfl, rfl, by decide +kernel, rfl, by decide +kernel, by decide +kernel⟩
abbrev s_opposite : Stmt := top 25
abbrev N_opposite : List Str := ["a"]
abbrev P_opposite : List Str := ["a"]
theorem sc_opposite : FnScope N_opposite P_opposite (defScope s_opposite) := ⟨rfl, rfl, rfl, by decide +kernel, rfl, by decide +kernel, by decide +kernel⟩
abbrev s_plus : Stmt := top 26
abbrev N_plus : List Str := ["a", "b", "divisor", "part", "above", "again"]
abbrev P_plus : List Str := ["a", "b"]
theorem sc_plus : FnScope N_plus P_plus (defScope s_plus) := ⟨rfl, rfl, rfl, by decide +kernel, rfl, by decide +kernel, by decide +kernel⟩
abbrev s_minus : Stmt := top 27
abbrev N_minus : List Str := ["a", "b"]
abbrev P_minus : List Str := ["a", "b"]
theorem sc_minus : FnScope N_minus P_minus (defScope s_minus) := ⟨rfl, rfl, rfl, by decide +kernel, rfl, by decide +kernel, by decide +kernel⟩
abbrev s_times : Stmt := top 28
abbrev N_times : List Str := ["a", "b", "first", "second"]
abbrev P_times : List Str := ["a", "b"]
theorem sc_times : FnScope N_times P_times (defScope s_times) := ⟨rfl, rfl, rfl, by decide +kernel, rfl, by decide +kernel, by decide +kernel⟩
abbrev s_over : Stmt := top 29
abbrev N_over : List Str := ["a", "b"]
abbrev P_over : List Str := ["a", "b"]
theorem sc_over : FnScope N_over P_over (defScope s_over) := ⟨rfl, rfl, rfl, by decide +kernel, rfl, by decide +kernel, by decide +kernel⟩
abbrev s_Refusal_init : Stmt := inClass (top 31) 0
abbrev N_Refusal_init : List Str := ["self", "number"]
abbrev P_Refusal_init : List Str := ["self", "number"]
theorem sc_Refusal_init : FnScope N_Refusal_init P_Refusal_init (defScope s_Refusal_init) := ⟨rfl, rfl, rfl, by decide +kernel, rfl, by decide +kernel, by decide +kernel⟩
abbrev s_OutOfRange_init : Stmt := inClass (top 32) 0
abbrev N_OutOfRange_init : List Str := ["self"]
abbrev P_OutOfRange_init : List Str := ["self"]
theorem sc_OutOfRange_init : FnScope N_OutOfRange_init P_OutOfRange_init (defScope s_OutOfRange_init) := ⟨rfl, rfl, rfl, by decide +kernel, rfl, by decide +kernel, by decide +kernel⟩
abbrev s_BadForm_init : Stmt := inClass (top 33) 0
abbrev N_BadForm_init : List Str := ["self"]
abbrev P_BadForm_init : List Str := ["self"]
theorem sc_BadForm_init : FnScope N_BadForm_init P_BadForm_init (defScope s_BadForm_init) := ⟨rfl, rfl, rfl, by decide +kernel, rfl, by decide +kernel, by decide +kernel⟩
abbrev s_NotThere_init : Stmt := inClass (top 34) 0
abbrev N_NotThere_init : List Str := ["self"]
abbrev P_NotThere_init : List Str := ["self"]
theorem sc_NotThere_init : FnScope N_NotThere_init P_NotThere_init (defScope s_NotThere_init) := ⟨rfl, rfl, rfl, by decide +kernel, rfl, by decide +kernel, by decide +kernel⟩
abbrev s_TooLarge_init : Stmt := inClass (top 35) 0
abbrev N_TooLarge_init : List Str := ["self"]
abbrev P_TooLarge_init : List Str := ["self"]
theorem sc_TooLarge_init : FnScope N_TooLarge_init P_TooLarge_init (defScope s_TooLarge_init) := ⟨rfl, rfl, rfl, by decide +kernel, rfl, by decide +kernel, by decide +kernel⟩
abbrev s_check_choice : Stmt := top 40
abbrev N_check_choice : List Str := ["number", "most"]
abbrev P_check_choice : List Str := ["number", "most"]
theorem sc_check_choice : FnScope N_check_choice P_check_choice (defScope s_check_choice) := ⟨rfl, rfl, rfl, by decide +kernel, rfl, by decide +kernel, by decide +kernel⟩
abbrev s_read_line : Stmt := top 41
abbrev N_read_line : List Str := ["kind", "numbers"]
abbrev P_read_line : List Str := ["kind", "numbers"]
theorem sc_read_line : FnScope N_read_line P_read_line (defScope s_read_line) := ⟨rfl, rfl, rfl, by decide +kernel, rfl, by decide +kernel, by decide +kernel⟩
abbrev s_read_lines : Stmt := top 42
abbrev N_read_lines : List Str := ["numbers", "lines", "at", "kind", "end"]
abbrev P_read_lines : List Str := ["numbers"]
theorem sc_read_lines : FnScope N_read_lines P_read_lines (defScope s_read_lines) := ⟨rfl, rfl, rfl, by decide +kernel, rfl, by decide +kernel, by decide +kernel⟩
abbrev s_check_uses : Stmt := top 43
abbrev N_check_uses : List Str := ["lines", "inputs", "i", "line", "used"]
abbrev P_check_uses : List Str := ["lines", "inputs"]
theorem sc_check_uses : FnScope N_check_uses P_check_uses (defScope s_check_uses) := ⟨rfl, rfl, rfl, by decide +kernel, rfl, by decide +kernel, by decide +kernel⟩
abbrev s_check_outs : Stmt := top 44
abbrev N_check_outs : List Str := ["outs", "lines", "out"]
abbrev P_check_outs : List Str := ["outs", "lines"]
theorem sc_check_outs : FnScope N_check_outs P_check_outs (defScope s_check_outs) := ⟨rfl, rfl, rfl, by decide +kernel, rfl, by decide +kernel, by decide +kernel⟩
abbrev s_read_program : Stmt := top 45
abbrev N_read_program : List Str := ["inputs", "numbers", "outs", "lines"]
abbrev P_read_program : List Str := ["inputs", "numbers", "outs"]
theorem sc_read_program : FnScope N_read_program P_read_program (defScope s_read_program) := ⟨rfl, rfl, rfl, by decide +kernel, rfl, by decide +kernel, by decide +kernel⟩
abbrev s_read_fractions : Stmt := top 46
abbrev N_read_fractions : List Str := ["numbers", "count", "found", "k"]
abbrev P_read_fractions : List Str := ["numbers", "count"]
theorem sc_read_fractions : FnScope N_read_fractions P_read_fractions (defScope s_read_fractions) := ⟨rfl, rfl, rfl, by decide +kernel, rfl, by decide +kernel, by decide +kernel⟩
abbrev s_worked_out : Stmt := top 51
abbrev N_worked_out : List Str := ["line", "inputs", "values", "kind", "first", "divisor"]
abbrev P_worked_out : List Str := ["line", "inputs", "values"]
theorem sc_worked_out : FnScope N_worked_out P_worked_out (defScope s_worked_out) := ⟨rfl, rfl, rfl, by decide +kernel, rfl, by decide +kernel, by decide +kernel⟩
abbrev s_run : Stmt := top 52
abbrev N_run : List Str := ["program", "inputs", "values", "i", "line", "value", "outcome", "out"]
abbrev P_run : List Str := ["program", "inputs"]
theorem sc_run : FnScope N_run P_run (defScope s_run) := ⟨rfl, rfl, rfl, by decide +kernel, rfl, by decide +kernel, by decide +kernel⟩
abbrev s_is_too_large : Stmt := top 59
abbrev N_is_too_large : List Str := ["line"]
abbrev P_is_too_large : List Str := ["line"]
theorem sc_is_too_large : FnScope N_is_too_large P_is_too_large (defScope s_is_too_large) := ⟨rfl, rfl, rfl, by decide +kernel, rfl, by decide +kernel, by decide +kernel⟩
abbrev s_check_text : Stmt := top 60
abbrev N_check_text : List Str := ["program", "line"]
abbrev P_check_text : List Str := ["program"]
theorem sc_check_text : FnScope N_check_text P_check_text (defScope s_check_text) := ⟨rfl, rfl, rfl, by decide +kernel, rfl, by decide +kernel, by decide +kernel⟩
abbrev s_input_name : Stmt := top 61
abbrev N_input_name : List Str := ["k"]
abbrev P_input_name : List Str := ["k"]
theorem sc_input_name : FnScope N_input_name P_input_name (defScope s_input_name) := ⟨rfl, rfl, rfl, by decide +kernel, rfl, by decide +kernel, by decide +kernel⟩
abbrev s_constant_name : Stmt := top 62
abbrev N_constant_name : List Str := ["above", "below"]
abbrev P_constant_name : List Str := ["above", "below"]
theorem sc_constant_name : FnScope N_constant_name P_constant_name (defScope s_constant_name) := ⟨rfl, rfl, rfl, by decide +kernel, rfl, by decide +kernel, by decide +kernel⟩
abbrev s_line_name : Stmt := top 63
abbrev N_line_name : List Str := ["i", "line"]
abbrev P_line_name : List Str := ["i", "line"]
theorem sc_line_name : FnScope N_line_name P_line_name (defScope s_line_name) := ⟨rfl, rfl, rfl, by decide +kernel, rfl, by decide +kernel, by decide +kernel⟩
abbrev s_let_part : Stmt := top 64
abbrev N_let_part : List Str := ["i", "line", "names", "used", "sign", "what", "j"]
abbrev P_let_part : List Str := ["i", "line", "names"]
theorem sc_let_part : FnScope N_let_part P_let_part (defScope s_let_part) := ⟨rfl, rfl, rfl, by decide +kernel, rfl, by decide +kernel, by decide +kernel⟩
abbrev s_text_of : Stmt := top 65
abbrev N_text_of : List Str := ["program", "inputs", "names", "lets", "outs", "i", "line", "k", "out"]
abbrev P_text_of : List Str := ["program"]
theorem sc_text_of : FnScope N_text_of P_text_of (defScope s_text_of) := ⟨rfl, rfl, rfl, by decide +kernel, rfl, by decide +kernel, by decide +kernel⟩
abbrev s_needed_ones : Stmt := top 67
abbrev N_needed_ones : List Str := ["program", "needed", "out", "i", "used", "line"]
abbrev P_needed_ones : List Str := ["program"]
theorem sc_needed_ones : FnScope N_needed_ones P_needed_ones (defScope s_needed_ones) := ⟨rfl, rfl, rfl, by decide +kernel, rfl, by decide +kernel, by decide +kernel⟩
abbrev s_needed_lines : Stmt := top 68
abbrev N_needed_lines : List Str := ["program", "i", "is_needed"]
abbrev P_needed_lines : List Str := ["program"]
theorem sc_needed_lines : FnScope N_needed_lines P_needed_lines (defScope s_needed_lines) := ⟨rfl, rfl, rfl, by decide +kernel, rfl, by decide +kernel, by decide +kernel⟩
abbrev s_renamed : Stmt := top 69
abbrev N_renamed : List Str := ["line", "places", "used", "i"]
abbrev P_renamed : List Str := ["line", "places"]
theorem sc_renamed : FnScope N_renamed P_renamed (defScope s_renamed) := ⟨rfl, rfl, rfl, by decide +kernel, rfl, by decide +kernel, by decide +kernel⟩
abbrev s_trimmed : Stmt := top 70
abbrev N_trimmed : List Str := ["program", "lines", "places", "i", "out"]
abbrev P_trimmed : List Str := ["program"]
theorem sc_trimmed : FnScope N_trimmed P_trimmed (defScope s_trimmed) := ⟨rfl, rfl, rfl, by decide +kernel, rfl, by decide +kernel, by decide +kernel⟩
abbrev s_trimmed_if : Stmt := top 85
abbrev N_trimmed_if : List Str := ["trim", "program"]
abbrev P_trimmed_if : List Str := ["trim", "program"]
theorem sc_trimmed_if : FnScope N_trimmed_if P_trimmed_if (defScope s_trimmed_if) := ⟨rfl, rfl, rfl, by decide +kernel, rfl, by decide +kernel, by decide +kernel⟩
abbrev s_Held_init : Stmt := inClass (top 86) 0
abbrev N_Held_init : List Str := ["self"]
abbrev P_Held_init : List Str := ["self"]
theorem sc_Held_init : FnScope N_Held_init P_Held_init (defScope s_Held_init) := ⟨rfl, rfl, rfl, by decide +kernel, rfl, by decide +kernel, by decide +kernel⟩
abbrev s_Held_answer_call : Stmt := inClass (top 86) 1
abbrev N_Held_answer_call : List Str := ["self", "call", "numbers", "rows"]
abbrev P_Held_answer_call : List Str := ["self", "call", "numbers", "rows"]
theorem sc_Held_answer_call : FnScope N_Held_answer_call P_Held_answer_call (defScope s_Held_answer_call) := ⟨rfl, rfl, rfl, by decide +kernel, rfl, by decide +kernel, by decide +kernel⟩
abbrev s_Held_take_code : Stmt := inClass (top 86) 2
abbrev N_Held_take_code : List Str := ["self", "inputs", "lines", "outs"]
abbrev P_Held_take_code : List Str := ["self", "inputs", "lines", "outs"]
theorem sc_Held_take_code : FnScope N_Held_take_code P_Held_take_code (defScope s_Held_take_code) := ⟨rfl, rfl, rfl, by decide +kernel, rfl, by decide +kernel, by decide +kernel⟩
abbrev s_Held_tell_back : Stmt := inClass (top 86) 3
abbrev N_Held_tell_back : List Str := ["self", "trim"]
abbrev P_Held_tell_back : List Str := ["self", "trim"]
theorem sc_Held_tell_back : FnScope N_Held_tell_back P_Held_tell_back (defScope s_Held_tell_back) := ⟨rfl, rfl, rfl, by decide +kernel, rfl, by decide +kernel, by decide +kernel⟩
abbrev s_Held_tell_ahead : Stmt := inClass (top 86) 4
abbrev N_Held_tell_ahead : List Str := ["self", "trim"]
abbrev P_Held_tell_ahead : List Str := ["self", "trim"]
theorem sc_Held_tell_ahead : FnScope N_Held_tell_ahead P_Held_tell_ahead (defScope s_Held_tell_ahead) := ⟨rfl, rfl, rfl, by decide +kernel, rfl, by decide +kernel, by decide +kernel⟩
abbrev s_Held_adopt_derivative : Stmt := inClass (top 86) 5
abbrev N_Held_adopt_derivative : List Str := ["self", "which", "trim", "made"]
abbrev P_Held_adopt_derivative : List Str := ["self", "which", "trim"]
theorem sc_Held_adopt_derivative : FnScope N_Held_adopt_derivative P_Held_adopt_derivative (defScope s_Held_adopt_derivative) := ⟨rfl, rfl, rfl, by decide +kernel, rfl, by decide +kernel, by decide +kernel⟩
abbrev s_Held_run_held : Stmt := inClass (top 86) 6
abbrev N_Held_run_held : List Str := ["self", "inputs"]
abbrev P_Held_run_held : List Str := ["self", "inputs"]
theorem sc_Held_run_held : FnScope N_Held_run_held P_Held_run_held (defScope s_Held_run_held) := ⟨rfl, rfl, rfl, by decide +kernel, rfl, by decide +kernel, by decide +kernel⟩
abbrev s_Held_run_gradient : Stmt := inClass (top 86) 7
abbrev N_Held_run_gradient : List Str := ["self", "inputs", "weights", "values"]
abbrev P_Held_run_gradient : List Str := ["self", "inputs", "weights"]
theorem sc_Held_run_gradient : FnScope N_Held_run_gradient P_Held_run_gradient (defScope s_Held_run_gradient) := ⟨rfl, rfl, rfl, by decide +kernel, rfl, by decide +kernel, by decide +kernel⟩
abbrev s_Held_run_change : Stmt := inClass (top 86) 8
abbrev N_Held_run_change : List Str := ["self", "inputs", "direction", "values"]
abbrev P_Held_run_change : List Str := ["self", "inputs", "direction"]
theorem sc_Held_run_change : FnScope N_Held_run_change P_Held_run_change (defScope s_Held_run_change) := ⟨rfl, rfl, rfl, by decide +kernel, rfl, by decide +kernel, by decide +kernel⟩
abbrev s_Held_tell_ops : Stmt := inClass (top 86) 9
abbrev N_Held_tell_ops : List Str := ["self", "back", "ahead", "made"]
abbrev P_Held_tell_ops : List Str := ["self"]
theorem sc_Held_tell_ops : FnScope N_Held_tell_ops P_Held_tell_ops (defScope s_Held_tell_ops) := ⟨rfl, rfl, rfl, by decide +kernel, rfl, by decide +kernel, by decide +kernel⟩
abbrev s_Held_tell_text : Stmt := inClass (top 86) 10
abbrev N_Held_tell_text : List Str := ["self", "which", "shown", "text", "sign"]
abbrev P_Held_tell_text : List Str := ["self", "which"]
theorem sc_Held_tell_text : FnScope N_Held_tell_text P_Held_tell_text (defScope s_Held_tell_text) := ⟨rfl, rfl, rfl, by decide +kernel, rfl, by decide +kernel, by decide +kernel⟩
abbrev s_Held_tell_needed : Stmt := inClass (top 86) 11
abbrev N_Held_tell_needed : List Str := ["self", "found"]
abbrev P_Held_tell_needed : List Str := ["self"]
theorem sc_Held_tell_needed : FnScope N_Held_tell_needed P_Held_tell_needed (defScope s_Held_tell_needed) := ⟨rfl, rfl, rfl, by decide +kernel, rfl, by decide +kernel, by decide +kernel⟩
abbrev s_Taker_init : Stmt := inClass (top 88) 0
abbrev N_Taker_init : List Str := ["self", "source"]
abbrev P_Taker_init : List Str := ["self", "source"]
theorem sc_Taker_init : FnScope N_Taker_init P_Taker_init (defScope s_Taker_init) := ⟨rfl, rfl, rfl, by decide +kernel, rfl, by decide +kernel, by decide +kernel⟩
abbrev s_Taker_is_done : Stmt := inClass (top 88) 1
abbrev N_Taker_is_done : List Str := ["self"]
abbrev P_Taker_is_done : List Str := ["self"]
theorem sc_Taker_is_done : FnScope N_Taker_is_done P_Taker_is_done (defScope s_Taker_is_done) := ⟨rfl, rfl, rfl, by decide +kernel, rfl, by decide +kernel, by decide +kernel⟩
abbrev s_Taker_take : Stmt := inClass (top 88) 2
abbrev N_Taker_take : List Str := ["self", "count", "start"]
abbrev P_Taker_take : List Str := ["self", "count"]
theorem sc_Taker_take : FnScope N_Taker_take P_Taker_take (defScope s_Taker_take) := ⟨rfl, rfl, rfl, by decide +kernel, rfl, by decide +kernel, by decide +kernel⟩
abbrev s_Taker_take_number : Stmt := inClass (top 88) 3
abbrev N_Taker_take_number : List Str := ["self"]
abbrev P_Taker_take_number : List Str := ["self"]
theorem sc_Taker_take_number : FnScope N_Taker_take_number P_Taker_take_number (defScope s_Taker_take_number) := ⟨rfl, rfl, rfl, by decide +kernel, rfl, by decide +kernel, by decide +kernel⟩
abbrev s_Taker_take_row : Stmt := inClass (top 88) 4
abbrev N_Taker_take_row : List Str := ["self"]
abbrev P_Taker_take_row : List Str := ["self"]
theorem sc_Taker_take_row : FnScope N_Taker_take_row P_Taker_take_row (defScope s_Taker_take_row) := ⟨rfl, rfl, rfl, by decide +kernel, rfl, by decide +kernel, by decide +kernel⟩
abbrev s_answer_next : Stmt := top 89
abbrev N_answer_next : List Str := ["held", "taker", "call", "shape", "numbers", "rows", "e", "k"]
abbrev P_answer_next : List Str := ["held", "taker"]
theorem sc_answer_next : FnScope N_answer_next P_answer_next (defScope s_answer_next) := ⟨rfl, rfl, rfl, by decide +kernel, rfl, by decide +kernel, by decide +kernel⟩
abbrev s_answers : Stmt := top 90
abbrev N_answers : List Str := ["calls", "held", "taker", "told", "answer"]
abbrev P_answers : List Str := ["calls"]
theorem sc_answers : FnScope N_answers P_answers (defScope s_answers) := ⟨rfl, rfl, rfl, by decide +kernel, rfl, by decide +kernel, by decide +kernel⟩
/-- where things stand -/
structure Ad where
  a_Program_init : Addr
  d_Program_init : FuncData
  a_Draft_init : Addr
  d_Draft_init : FuncData
  a_Draft_put : Addr
  d_Draft_put : FuncData
  a_is_operation : Addr
  d_is_operation : FuncData
  a_made_of : Addr
  d_made_of : FuncData
  a_operations : Addr
  d_operations : FuncData
  a_told : Addr
  d_told : FuncData
  a_WeightDraft_init : Addr
  d_WeightDraft_init : FuncData
  a_WeightDraft_weigh : Addr
  d_WeightDraft_weigh : FuncData
  a_WeightDraft_weigh_outs : Addr
  d_WeightDraft_weigh_outs : FuncData
  a_WeightDraft_pass_on : Addr
  d_WeightDraft_pass_on : FuncData
  a_WeightDraft_pass_on_quotient : Addr
  d_WeightDraft_pass_on_quotient : FuncData
  a_WeightDraft_put_sum : Addr
  d_WeightDraft_put_sum : FuncData
  a_WeightDraft_gather : Addr
  d_WeightDraft_gather : FuncData
  a_backward : Addr
  d_backward : FuncData
  a_ChangeDraft_init : Addr
  d_ChangeDraft_init : FuncData
  a_ChangeDraft_put_change : Addr
  d_ChangeDraft_put_change : FuncData
  a_ChangeDraft_opposite_of : Addr
  d_ChangeDraft_opposite_of : FuncData
  a_ChangeDraft_change_of_sum : Addr
  d_ChangeDraft_change_of_sum : FuncData
  a_ChangeDraft_change_of_difference : Addr
  d_ChangeDraft_change_of_difference : FuncData
  a_ChangeDraft_change_of_product : Addr
  d_ChangeDraft_change_of_product : FuncData
  a_ChangeDraft_change_of_quotient : Addr
  d_ChangeDraft_change_of_quotient : FuncData
  a_ChangeDraft_divided : Addr
  d_ChangeDraft_divided : FuncData
  a_ChangeDraft_put_out : Addr
  d_ChangeDraft_put_out : FuncData
  a_forward : Addr
  d_forward : FuncData
  a_common_divisor : Addr
  d_common_divisor : FuncData
  a_lowest : Addr
  d_lowest : FuncData
  a_weight : Addr
  d_weight : FuncData
  a_opposite : Addr
  d_opposite : FuncData
  a_plus : Addr
  d_plus : FuncData
  a_minus : Addr
  d_minus : FuncData
  a_times : Addr
  d_times : FuncData
  a_over : Addr
  d_over : FuncData
  a_Refusal_init : Addr
  d_Refusal_init : FuncData
  a_OutOfRange_init : Addr
  d_OutOfRange_init : FuncData
  a_BadForm_init : Addr
  d_BadForm_init : FuncData
  a_NotThere_init : Addr
  d_NotThere_init : FuncData
  a_TooLarge_init : Addr
  d_TooLarge_init : FuncData
  a_check_choice : Addr
  d_check_choice : FuncData
  a_read_line : Addr
  d_read_line : FuncData
  a_read_lines : Addr
  d_read_lines : FuncData
  a_check_uses : Addr
  d_check_uses : FuncData
  a_check_outs : Addr
  d_check_outs : FuncData
  a_read_program : Addr
  d_read_program : FuncData
  a_read_fractions : Addr
  d_read_fractions : FuncData
  a_worked_out : Addr
  d_worked_out : FuncData
  a_run : Addr
  d_run : FuncData
  a_is_too_large : Addr
  d_is_too_large : FuncData
  a_check_text : Addr
  d_check_text : FuncData
  a_input_name : Addr
  d_input_name : FuncData
  a_constant_name : Addr
  d_constant_name : FuncData
  a_line_name : Addr
  d_line_name : FuncData
  a_let_part : Addr
  d_let_part : FuncData
  a_text_of : Addr
  d_text_of : FuncData
  a_needed_ones : Addr
  d_needed_ones : FuncData
  a_needed_lines : Addr
  d_needed_lines : FuncData
  a_renamed : Addr
  d_renamed : FuncData
  a_trimmed : Addr
  d_trimmed : FuncData
  a_trimmed_if : Addr
  d_trimmed_if : FuncData
  a_Held_init : Addr
  d_Held_init : FuncData
  a_Held_answer_call : Addr
  d_Held_answer_call : FuncData
  a_Held_take_code : Addr
  d_Held_take_code : FuncData
  a_Held_tell_back : Addr
  d_Held_tell_back : FuncData
  a_Held_tell_ahead : Addr
  d_Held_tell_ahead : FuncData
  a_Held_adopt_derivative : Addr
  d_Held_adopt_derivative : FuncData
  a_Held_run_held : Addr
  d_Held_run_held : FuncData
  a_Held_run_gradient : Addr
  d_Held_run_gradient : FuncData
  a_Held_run_change : Addr
  d_Held_run_change : FuncData
  a_Held_tell_ops : Addr
  d_Held_tell_ops : FuncData
  a_Held_tell_text : Addr
  d_Held_tell_text : FuncData
  a_Held_tell_needed : Addr
  d_Held_tell_needed : FuncData
  a_Taker_init : Addr
  d_Taker_init : FuncData
  a_Taker_is_done : Addr
  d_Taker_is_done : FuncData
  a_Taker_take : Addr
  d_Taker_take : FuncData
  a_Taker_take_number : Addr
  d_Taker_take_number : FuncData
  a_Taker_take_row : Addr
  d_Taker_take_row : FuncData
  a_answer_next : Addr
  d_answer_next : FuncData
  a_answers : Addr
  d_answers : FuncData
  c_Program : Addr
  c_Draft : Addr
  c_WeightDraft : Addr
  c_ChangeDraft : Addr
  c_Refusal : Addr
  c_OutOfRange : Addr
  c_BadForm : Addr
  c_NotThere : Addr
  c_TooLarge : Addr
  c_Held : Addr
  c_Taker : Addr
  k_SIZES : Addr
  k_SIGNS : Addr
  k_SHAPES : Addr
  k_SHAPES_0 : Addr
  k_SHAPES_1 : Addr
  k_SHAPES_2 : Addr
  k_SHAPES_3 : Addr
  k_SHAPES_4 : Addr
  k_SHAPES_5 : Addr
  k_SHAPES_6 : Addr
  k_SHAPES_7 : Addr
  k_SHAPES_8 : Addr
  k_SHAPES_9 : Addr
  k_SHAPES_10 : Addr
/-- what the top has written -/
structure Txt (K : PySem.W.Frag) (mg : Str → Option Value) (D : Ad) : Prop where
  F_Program_init : Fun K "__init__" "Program.__init__" s_Program_init D.a_Program_init D.d_Program_init
  F_Draft_init : Fun K "__init__" "Draft.__init__" s_Draft_init D.a_Draft_init D.d_Draft_init
  F_Draft_put : Fun K "put" "Draft.put" s_Draft_put D.a_Draft_put D.d_Draft_put
  F_is_operation : Fun K "is_operation" "is_operation" s_is_operation D.a_is_operation D.d_is_operation
  g_is_operation : mg "is_operation" = some (.ref D.a_is_operation)
  F_made_of : Fun K "made_of" "made_of" s_made_of D.a_made_of D.d_made_of
  g_made_of : mg "made_of" = some (.ref D.a_made_of)
  F_operations : Fun K "operations" "operations" s_operations D.a_operations D.d_operations
  g_operations : mg "operations" = some (.ref D.a_operations)
  F_told : Fun K "told" "told" s_told D.a_told D.d_told
  g_told : mg "told" = some (.ref D.a_told)
  F_WeightDraft_init : Fun K "__init__" "WeightDraft.__init__" s_WeightDraft_init D.a_WeightDraft_init D.d_WeightDraft_init
  F_WeightDraft_weigh : Fun K "weigh" "WeightDraft.weigh" s_WeightDraft_weigh D.a_WeightDraft_weigh D.d_WeightDraft_weigh
  F_WeightDraft_weigh_outs : Fun K "weigh_outs" "WeightDraft.weigh_outs" s_WeightDraft_weigh_outs D.a_WeightDraft_weigh_outs D.d_WeightDraft_weigh_outs
  F_WeightDraft_pass_on : Fun K "pass_on" "WeightDraft.pass_on" s_WeightDraft_pass_on D.a_WeightDraft_pass_on D.d_WeightDraft_pass_on
  F_WeightDraft_pass_on_quotient : Fun K "pass_on_quotient" "WeightDraft.pass_on_quotient" s_WeightDraft_pass_on_quotient D.a_WeightDraft_pass_on_quotient D.d_WeightDraft_pass_on_quotient
  F_WeightDraft_put_sum : Fun K "put_sum" "WeightDraft.put_sum" s_WeightDraft_put_sum D.a_WeightDraft_put_sum D.d_WeightDraft_put_sum
  F_WeightDraft_gather : Fun K "gather" "WeightDraft.gather" s_WeightDraft_gather D.a_WeightDraft_gather D.d_WeightDraft_gather
  F_backward : Fun K "backward" "backward" s_backward D.a_backward D.d_backward
  g_backward : mg "backward" = some (.ref D.a_backward)
  F_ChangeDraft_init : Fun K "__init__" "ChangeDraft.__init__" s_ChangeDraft_init D.a_ChangeDraft_init D.d_ChangeDraft_init
  F_ChangeDraft_put_change : Fun K "put_change" "ChangeDraft.put_change" s_ChangeDraft_put_change D.a_ChangeDraft_put_change D.d_ChangeDraft_put_change
  F_ChangeDraft_opposite_of : Fun K "opposite_of" "ChangeDraft.opposite_of" s_ChangeDraft_opposite_of D.a_ChangeDraft_opposite_of D.d_ChangeDraft_opposite_of
  F_ChangeDraft_change_of_sum : Fun K "change_of_sum" "ChangeDraft.change_of_sum" s_ChangeDraft_change_of_sum D.a_ChangeDraft_change_of_sum D.d_ChangeDraft_change_of_sum
  F_ChangeDraft_change_of_difference : Fun K "change_of_difference" "ChangeDraft.change_of_difference" s_ChangeDraft_change_of_difference D.a_ChangeDraft_change_of_difference D.d_ChangeDraft_change_of_difference
  F_ChangeDraft_change_of_product : Fun K "change_of_product" "ChangeDraft.change_of_product" s_ChangeDraft_change_of_product D.a_ChangeDraft_change_of_product D.d_ChangeDraft_change_of_product
  F_ChangeDraft_change_of_quotient : Fun K "change_of_quotient" "ChangeDraft.change_of_quotient" s_ChangeDraft_change_of_quotient D.a_ChangeDraft_change_of_quotient D.d_ChangeDraft_change_of_quotient
  F_ChangeDraft_divided : Fun K "divided" "ChangeDraft.divided" s_ChangeDraft_divided D.a_ChangeDraft_divided D.d_ChangeDraft_divided
  F_ChangeDraft_put_out : Fun K "put_out" "ChangeDraft.put_out" s_ChangeDraft_put_out D.a_ChangeDraft_put_out D.d_ChangeDraft_put_out
  F_forward : Fun K "forward" "forward" s_forward D.a_forward D.d_forward
  g_forward : mg "forward" = some (.ref D.a_forward)
  F_common_divisor : Fun K "common_divisor" "common_divisor" s_common_divisor D.a_common_divisor D.d_common_divisor
  g_common_divisor : mg "common_divisor" = some (.ref D.a_common_divisor)
  F_lowest : Fun K "lowest" "lowest" s_lowest D.a_lowest D.d_lowest
  g_lowest : mg "lowest" = some (.ref D.a_lowest)
  F_weight : Fun K "weight" "weight" s_weight D.a_weight D.d_weight
  g_weight : mg "weight" = some (.ref D.a_weight)
  F_opposite : Fun K "opposite" "opposite" s_opposite D.a_opposite D.d_opposite
  g_opposite : mg "opposite" = some (.ref D.a_opposite)
  F_plus : Fun K "plus" "plus" s_plus D.a_plus D.d_plus
  g_plus : mg "plus" = some (.ref D.a_plus)
  F_minus : Fun K "minus" "minus" s_minus D.a_minus D.d_minus
  g_minus : mg "minus" = some (.ref D.a_minus)
  F_times : Fun K "times" "times" s_times D.a_times D.d_times
  g_times : mg "times" = some (.ref D.a_times)
  F_over : Fun K "over" "over" s_over D.a_over D.d_over
  g_over : mg "over" = some (.ref D.a_over)
  F_Refusal_init : Fun K "__init__" "Refusal.__init__" s_Refusal_init D.a_Refusal_init D.d_Refusal_init
  F_OutOfRange_init : Fun K "__init__" "OutOfRange.__init__" s_OutOfRange_init D.a_OutOfRange_init D.d_OutOfRange_init
  F_BadForm_init : Fun K "__init__" "BadForm.__init__" s_BadForm_init D.a_BadForm_init D.d_BadForm_init
  F_NotThere_init : Fun K "__init__" "NotThere.__init__" s_NotThere_init D.a_NotThere_init D.d_NotThere_init
  F_TooLarge_init : Fun K "__init__" "TooLarge.__init__" s_TooLarge_init D.a_TooLarge_init D.d_TooLarge_init
  F_check_choice : Fun K "check_choice" "check_choice" s_check_choice D.a_check_choice D.d_check_choice
  g_check_choice : mg "check_choice" = some (.ref D.a_check_choice)
  F_read_line : Fun K "read_line" "read_line" s_read_line D.a_read_line D.d_read_line
  g_read_line : mg "read_line" = some (.ref D.a_read_line)
  F_read_lines : Fun K "read_lines" "read_lines" s_read_lines D.a_read_lines D.d_read_lines
  g_read_lines : mg "read_lines" = some (.ref D.a_read_lines)
  F_check_uses : Fun K "check_uses" "check_uses" s_check_uses D.a_check_uses D.d_check_uses
  g_check_uses : mg "check_uses" = some (.ref D.a_check_uses)
  F_check_outs : Fun K "check_outs" "check_outs" s_check_outs D.a_check_outs D.d_check_outs
  g_check_outs : mg "check_outs" = some (.ref D.a_check_outs)
  F_read_program : Fun K "read_program" "read_program" s_read_program D.a_read_program D.d_read_program
  g_read_program : mg "read_program" = some (.ref D.a_read_program)
  F_read_fractions : Fun K "read_fractions" "read_fractions" s_read_fractions D.a_read_fractions D.d_read_fractions
  g_read_fractions : mg "read_fractions" = some (.ref D.a_read_fractions)
  F_worked_out : Fun K "worked_out" "worked_out" s_worked_out D.a_worked_out D.d_worked_out
  g_worked_out : mg "worked_out" = some (.ref D.a_worked_out)
  F_run : Fun K "run" "run" s_run D.a_run D.d_run
  g_run : mg "run" = some (.ref D.a_run)
  F_is_too_large : Fun K "is_too_large" "is_too_large" s_is_too_large D.a_is_too_large D.d_is_too_large
  g_is_too_large : mg "is_too_large" = some (.ref D.a_is_too_large)
  F_check_text : Fun K "check_text" "check_text" s_check_text D.a_check_text D.d_check_text
  g_check_text : mg "check_text" = some (.ref D.a_check_text)
  F_input_name : Fun K "input_name" "input_name" s_input_name D.a_input_name D.d_input_name
  g_input_name : mg "input_name" = some (.ref D.a_input_name)
  F_constant_name : Fun K "constant_name" "constant_name" s_constant_name D.a_constant_name D.d_constant_name
  g_constant_name : mg "constant_name" = some (.ref D.a_constant_name)
  F_line_name : Fun K "line_name" "line_name" s_line_name D.a_line_name D.d_line_name
  g_line_name : mg "line_name" = some (.ref D.a_line_name)
  F_let_part : Fun K "let_part" "let_part" s_let_part D.a_let_part D.d_let_part
  g_let_part : mg "let_part" = some (.ref D.a_let_part)
  F_text_of : Fun K "text_of" "text_of" s_text_of D.a_text_of D.d_text_of
  g_text_of : mg "text_of" = some (.ref D.a_text_of)
  F_needed_ones : Fun K "needed_ones" "needed_ones" s_needed_ones D.a_needed_ones D.d_needed_ones
  g_needed_ones : mg "needed_ones" = some (.ref D.a_needed_ones)
  F_needed_lines : Fun K "needed_lines" "needed_lines" s_needed_lines D.a_needed_lines D.d_needed_lines
  g_needed_lines : mg "needed_lines" = some (.ref D.a_needed_lines)
  F_renamed : Fun K "renamed" "renamed" s_renamed D.a_renamed D.d_renamed
  g_renamed : mg "renamed" = some (.ref D.a_renamed)
  F_trimmed : Fun K "trimmed" "trimmed" s_trimmed D.a_trimmed D.d_trimmed
  g_trimmed : mg "trimmed" = some (.ref D.a_trimmed)
  F_trimmed_if : Fun K "trimmed_if" "trimmed_if" s_trimmed_if D.a_trimmed_if D.d_trimmed_if
  g_trimmed_if : mg "trimmed_if" = some (.ref D.a_trimmed_if)
  F_Held_init : Fun K "__init__" "Held.__init__" s_Held_init D.a_Held_init D.d_Held_init
  F_Held_answer_call : Fun K "answer_call" "Held.answer_call" s_Held_answer_call D.a_Held_answer_call D.d_Held_answer_call
  F_Held_take_code : Fun K "take_code" "Held.take_code" s_Held_take_code D.a_Held_take_code D.d_Held_take_code
  F_Held_tell_back : Fun K "tell_back" "Held.tell_back" s_Held_tell_back D.a_Held_tell_back D.d_Held_tell_back
  F_Held_tell_ahead : Fun K "tell_ahead" "Held.tell_ahead" s_Held_tell_ahead D.a_Held_tell_ahead D.d_Held_tell_ahead
  F_Held_adopt_derivative : Fun K "adopt_derivative" "Held.adopt_derivative" s_Held_adopt_derivative D.a_Held_adopt_derivative D.d_Held_adopt_derivative
  F_Held_run_held : Fun K "run_held" "Held.run_held" s_Held_run_held D.a_Held_run_held D.d_Held_run_held
  F_Held_run_gradient : Fun K "run_gradient" "Held.run_gradient" s_Held_run_gradient D.a_Held_run_gradient D.d_Held_run_gradient
  F_Held_run_change : Fun K "run_change" "Held.run_change" s_Held_run_change D.a_Held_run_change D.d_Held_run_change
  F_Held_tell_ops : Fun K "tell_ops" "Held.tell_ops" s_Held_tell_ops D.a_Held_tell_ops D.d_Held_tell_ops
  F_Held_tell_text : Fun K "tell_text" "Held.tell_text" s_Held_tell_text D.a_Held_tell_text D.d_Held_tell_text
  F_Held_tell_needed : Fun K "tell_needed" "Held.tell_needed" s_Held_tell_needed D.a_Held_tell_needed D.d_Held_tell_needed
  F_Taker_init : Fun K "__init__" "Taker.__init__" s_Taker_init D.a_Taker_init D.d_Taker_init
  F_Taker_is_done : Fun K "is_done" "Taker.is_done" s_Taker_is_done D.a_Taker_is_done D.d_Taker_is_done
  F_Taker_take : Fun K "take" "Taker.take" s_Taker_take D.a_Taker_take D.d_Taker_take
  F_Taker_take_number : Fun K "take_number" "Taker.take_number" s_Taker_take_number D.a_Taker_take_number D.d_Taker_take_number
  F_Taker_take_row : Fun K "take_row" "Taker.take_row" s_Taker_take_row D.a_Taker_take_row D.d_Taker_take_row
  F_answer_next : Fun K "answer_next" "answer_next" s_answer_next D.a_answer_next D.d_answer_next
  g_answer_next : mg "answer_next" = some (.ref D.a_answer_next)
  F_answers : Fun K "answers" "answers" s_answers D.a_answers D.d_answers
  g_answers : mg "answers" = some (.ref D.a_answers)
  g_Program : mg "Program" = some (.ref D.c_Program)
  cl_Program : Cls K D.c_Program
  mk_Program : Mk K D.c_Program D.a_Program_init
  n_Program_inputs : NoAttr K D.c_Program "inputs"
  n_Program_lines : NoAttr K D.c_Program "lines"
  n_Program_outs : NoAttr K D.c_Program "outs"
  g_Draft : mg "Draft" = some (.ref D.c_Draft)
  cl_Draft : Cls K D.c_Draft
  m_Draft_put : Meth K D.c_Draft "put" D.a_Draft_put
  n_Draft_lines : NoAttr K D.c_Draft "lines"
  g_WeightDraft : mg "WeightDraft" = some (.ref D.c_WeightDraft)
  cl_WeightDraft : Cls K D.c_WeightDraft
  mk_WeightDraft : Mk K D.c_WeightDraft D.a_WeightDraft_init
  m_WeightDraft_put : Meth K D.c_WeightDraft "put" D.a_Draft_put
  m_WeightDraft_weigh : Meth K D.c_WeightDraft "weigh" D.a_WeightDraft_weigh
  m_WeightDraft_weigh_outs : Meth K D.c_WeightDraft "weigh_outs" D.a_WeightDraft_weigh_outs
  m_WeightDraft_pass_on : Meth K D.c_WeightDraft "pass_on" D.a_WeightDraft_pass_on
  m_WeightDraft_pass_on_quotient : Meth K D.c_WeightDraft "pass_on_quotient" D.a_WeightDraft_pass_on_quotient
  m_WeightDraft_put_sum : Meth K D.c_WeightDraft "put_sum" D.a_WeightDraft_put_sum
  m_WeightDraft_gather : Meth K D.c_WeightDraft "gather" D.a_WeightDraft_gather
  n_WeightDraft_lines : NoAttr K D.c_WeightDraft "lines"
  n_WeightDraft_holders : NoAttr K D.c_WeightDraft "holders"
  g_ChangeDraft : mg "ChangeDraft" = some (.ref D.c_ChangeDraft)
  cl_ChangeDraft : Cls K D.c_ChangeDraft
  mk_ChangeDraft : Mk K D.c_ChangeDraft D.a_ChangeDraft_init
  m_ChangeDraft_put : Meth K D.c_ChangeDraft "put" D.a_Draft_put
  m_ChangeDraft_put_change : Meth K D.c_ChangeDraft "put_change" D.a_ChangeDraft_put_change
  m_ChangeDraft_opposite_of : Meth K D.c_ChangeDraft "opposite_of" D.a_ChangeDraft_opposite_of
  m_ChangeDraft_change_of_sum : Meth K D.c_ChangeDraft "change_of_sum" D.a_ChangeDraft_change_of_sum
  m_ChangeDraft_change_of_difference : Meth K D.c_ChangeDraft "change_of_difference" D.a_ChangeDraft_change_of_difference
  m_ChangeDraft_change_of_product : Meth K D.c_ChangeDraft "change_of_product" D.a_ChangeDraft_change_of_product
  m_ChangeDraft_change_of_quotient : Meth K D.c_ChangeDraft "change_of_quotient" D.a_ChangeDraft_change_of_quotient
  m_ChangeDraft_divided : Meth K D.c_ChangeDraft "divided" D.a_ChangeDraft_divided
  m_ChangeDraft_put_out : Meth K D.c_ChangeDraft "put_out" D.a_ChangeDraft_put_out
  n_ChangeDraft_lines : NoAttr K D.c_ChangeDraft "lines"
  n_ChangeDraft_inputs : NoAttr K D.c_ChangeDraft "inputs"
  n_ChangeDraft_changes : NoAttr K D.c_ChangeDraft "changes"
  g_Refusal : mg "Refusal" = some (.ref D.c_Refusal)
  g_OutOfRange : mg "OutOfRange" = some (.ref D.c_OutOfRange)
  x_OutOfRange : XC K D.c_OutOfRange D.c_Refusal
  y_OutOfRange : XI K D.c_OutOfRange D.a_OutOfRange_init
  g_BadForm : mg "BadForm" = some (.ref D.c_BadForm)
  x_BadForm : XC K D.c_BadForm D.c_Refusal
  y_BadForm : XI K D.c_BadForm D.a_BadForm_init
  g_NotThere : mg "NotThere" = some (.ref D.c_NotThere)
  x_NotThere : XC K D.c_NotThere D.c_Refusal
  y_NotThere : XI K D.c_NotThere D.a_NotThere_init
  g_TooLarge : mg "TooLarge" = some (.ref D.c_TooLarge)
  x_TooLarge : XC K D.c_TooLarge D.c_Refusal
  y_TooLarge : XI K D.c_TooLarge D.a_TooLarge_init
  g_Held : mg "Held" = some (.ref D.c_Held)
  cl_Held : Cls K D.c_Held
  mk_Held : Mk K D.c_Held D.a_Held_init
  m_Held_answer_call : Meth K D.c_Held "answer_call" D.a_Held_answer_call
  m_Held_take_code : Meth K D.c_Held "take_code" D.a_Held_take_code
  m_Held_tell_back : Meth K D.c_Held "tell_back" D.a_Held_tell_back
  m_Held_tell_ahead : Meth K D.c_Held "tell_ahead" D.a_Held_tell_ahead
  m_Held_adopt_derivative : Meth K D.c_Held "adopt_derivative" D.a_Held_adopt_derivative
  m_Held_run_held : Meth K D.c_Held "run_held" D.a_Held_run_held
  m_Held_run_gradient : Meth K D.c_Held "run_gradient" D.a_Held_run_gradient
  m_Held_run_change : Meth K D.c_Held "run_change" D.a_Held_run_change
  m_Held_tell_ops : Meth K D.c_Held "tell_ops" D.a_Held_tell_ops
  m_Held_tell_text : Meth K D.c_Held "tell_text" D.a_Held_tell_text
  m_Held_tell_needed : Meth K D.c_Held "tell_needed" D.a_Held_tell_needed
  n_Held_program : NoAttr K D.c_Held "program"
  g_Taker : mg "Taker" = some (.ref D.c_Taker)
  cl_Taker : Cls K D.c_Taker
  mk_Taker : Mk K D.c_Taker D.a_Taker_init
  m_Taker_is_done : Meth K D.c_Taker "is_done" D.a_Taker_is_done
  m_Taker_take : Meth K D.c_Taker "take" D.a_Taker_take
  m_Taker_take_number : Meth K D.c_Taker "take_number" D.a_Taker_take_number
  m_Taker_take_row : Meth K D.c_Taker "take_row" D.a_Taker_take_row
  n_Taker_source : NoAttr K D.c_Taker "source"
  n_Taker_place : NoAttr K D.c_Taker "place"
  v_INPUT : ∃ t, mg "INPUT" = some (.int 0 t)
  v_CONSTANT : ∃ t, mg "CONSTANT" = some (.int 1 t)
  v_SUM : ∃ t, mg "SUM" = some (.int 2 t)
  v_DIFFERENCE : ∃ t, mg "DIFFERENCE" = some (.int 3 t)
  v_PRODUCT : ∃ t, mg "PRODUCT" = some (.int 4 t)
  v_QUOTIENT : ∃ t, mg "QUOTIENT" = some (.int 5 t)
  v_OPPOSITE : ∃ t, mg "OPPOSITE" = some (.int 6 t)
  v_MOST_INPUTS_reading : ∃ t, mg "MOST_INPUTS_reading" = some (.int 12 t)
  v_MOST_LINES : ∃ t, mg "MOST_LINES" = some (.int 80 t)
  v_MOST_OUTS_reading : ∃ t, mg "MOST_OUTS_reading" = some (.int 6 t)
  v_DIVISOR_IS_ZERO : ∃ t, mg "DIVISOR_IS_ZERO" = some (.int 1 t)
  v_TOO_HEAVY : ∃ t, mg "TOO_HEAVY" = some (.int 2 t)
  v_HEAVIEST : ∃ t, mg "HEAVIEST" = some (.int 4000 t)
  v_MOST_INPUTS_texts : ∃ t, mg "MOST_INPUTS_texts" = some (.int 12 t)
  v_MOST_OUTS_texts : ∃ t, mg "MOST_OUTS_texts" = some (.int 12 t)
  v_MOST_OPERATIONS : ∃ t, mg "MOST_OPERATIONS" = some (.int 36 t)
  v_TOO_LARGE_A_NUMBER : ∃ t, mg "TOO_LARGE_A_NUMBER" = some (.int 1000000000000000000 t)
  v_CODE : ∃ t, mg "CODE" = some (.int 0 t)
  v_BACK : ∃ t, mg "BACK" = some (.int 1 t)
  v_AHEAD : ∃ t, mg "AHEAD" = some (.int 2 t)
  v_ADOPT : ∃ t, mg "ADOPT" = some (.int 3 t)
  v_RUN : ∃ t, mg "RUN" = some (.int 4 t)
  v_GRADIENT : ∃ t, mg "GRADIENT" = some (.int 5 t)
  v_CHANGE : ∃ t, mg "CHANGE" = some (.int 6 t)
  v_OPS : ∃ t, mg "OPS" = some (.int 7 t)
  v_TEXT : ∃ t, mg "TEXT" = some (.int 8 t)
  v_LINES : ∃ t, mg "LINES" = some (.int 9 t)
  v_MOST_ADOPTED_INPUTS : ∃ t, mg "MOST_ADOPTED_INPUTS" = some (.int 24 t)
  v_MOST_ADOPTED_LINES : ∃ t, mg "MOST_ADOPTED_LINES" = some (.int 600 t)
  v_SIZES : mg "SIZES" = some (.ref D.k_SIZES)
  t_SIZES : ∀ H : Hp, SqT K H D.k_SIZES [.int 1, .int 2, .int 2, .int 2, .int 2, .int 2, .int 1]
  v_SIGNS : mg "SIGNS" = some (.ref D.k_SIGNS)
  t_SIGNS : ∀ H : Hp, SqT K H D.k_SIGNS [.str "", .str "", .str "+", .str "-", .str "*", .str "/", .str "-"]
  v_SHAPES : mg "SHAPES" = some (.ref D.k_SHAPES)
  t_SHAPES : ∀ H : Hp, SqT K H D.k_SHAPES [.ref D.k_SHAPES_0, .ref D.k_SHAPES_1, .ref D.k_SHAPES_2, .ref D.k_SHAPES_3, .ref D.k_SHAPES_4, .ref D.k_SHAPES_5, .ref D.k_SHAPES_6, .ref D.k_SHAPES_7, .ref D.k_SHAPES_8, .ref D.k_SHAPES_9, .ref D.k_SHAPES_10]
  t_SHAPES_0 : ∀ H : Hp, SqT K H D.k_SHAPES_0 [.int 1, .int 2]
  t_SHAPES_1 : ∀ H : Hp, SqT K H D.k_SHAPES_1 [.int 1, .int 0]
  t_SHAPES_2 : ∀ H : Hp, SqT K H D.k_SHAPES_2 [.int 1, .int 0]
  t_SHAPES_3 : ∀ H : Hp, SqT K H D.k_SHAPES_3 [.int 2, .int 0]
  t_SHAPES_4 : ∀ H : Hp, SqT K H D.k_SHAPES_4 [.int 0, .int 1]
  t_SHAPES_5 : ∀ H : Hp, SqT K H D.k_SHAPES_5 [.int 0, .int 2]
  t_SHAPES_6 : ∀ H : Hp, SqT K H D.k_SHAPES_6 [.int 0, .int 2]
  t_SHAPES_7 : ∀ H : Hp, SqT K H D.k_SHAPES_7 [.int 0, .int 0]
  t_SHAPES_8 : ∀ H : Hp, SqT K H D.k_SHAPES_8 [.int 1, .int 0]
  t_SHAPES_9 : ∀ H : Hp, SqT K H D.k_SHAPES_9 [.int 0, .int 0]
  t_SHAPES_10 : ∀ H : Hp, SqT K H D.k_SHAPES_10 [.int 0, .int 0]
  cf_Draft_init : ClsFn K D.c_Draft "__init__" D.a_Draft_init
  cf_Refusal_init : ClsFn K D.c_Refusal "__init__" D.a_Refusal_init
  exI : PySem.W.findCls K (.type "Exception") (.type "type") "__init__" = some (.val (.builtin "Exception.__init__"))
  f_Exception : mg "Exception" = none
  f_abs : mg "abs" = none
  f_any : mg "any" = none
  f_enumerate : mg "enumerate" = none
  f_len : mg "len" = none
  f_list : mg "list" = none
  f_max : mg "max" = none
  f_min : mg "min" = none
  f_ord : mg "ord" = none
  f_range : mg "range" = none
  f_tuple : mg "tuple" = none
theorem b_Program_init {K : PySem.W.Frag} {mg : Str → Option Value} {D : Ad} (T : Txt K mg D) : Binds K D.d_Program_init P_Program_init [] := T.F_Program_init.binds fun _ _ _ _ _ _ us hl => match us, hl with | [_, _, _, _], _ => rfl
theorem b_Draft_init {K : PySem.W.Frag} {mg : Str → Option Value} {D : Ad} (T : Txt K mg D) : Binds K D.d_Draft_init P_Draft_init [] := T.F_Draft_init.binds fun _ _ _ _ _ _ us hl => match us, hl with | [_, _], _ => rfl
theorem b_Draft_put {K : PySem.W.Frag} {mg : Str → Option Value} {D : Ad} (T : Txt K mg D) : Binds K D.d_Draft_put P_Draft_put [] := T.F_Draft_put.binds fun _ _ _ _ _ _ us hl => match us, hl with | [_, _], _ => rfl
theorem b_is_operation {K : PySem.W.Frag} {mg : Str → Option Value} {D : Ad} (T : Txt K mg D) : Binds K D.d_is_operation P_is_operation [] := T.F_is_operation.binds fun _ _ _ _ _ _ us hl => match us, hl with | [_], _ => rfl
theorem b_made_of {K : PySem.W.Frag} {mg : Str → Option Value} {D : Ad} (T : Txt K mg D) : Binds K D.d_made_of P_made_of [] := T.F_made_of.binds fun _ _ _ _ _ _ us hl => match us, hl with | [_], _ => rfl
theorem b_operations {K : PySem.W.Frag} {mg : Str → Option Value} {D : Ad} (T : Txt K mg D) : Binds K D.d_operations P_operations [] := T.F_operations.binds fun _ _ _ _ _ _ us hl => match us, hl with | [_], _ => rfl
theorem b_told {K : PySem.W.Frag} {mg : Str → Option Value} {D : Ad} (T : Txt K mg D) : Binds K D.d_told P_told [] := T.F_told.binds fun _ _ _ _ _ _ us hl => match us, hl with | [_], _ => rfl
theorem b_WeightDraft_init {K : PySem.W.Frag} {mg : Str → Option Value} {D : Ad} (T : Txt K mg D) : Binds K D.d_WeightDraft_init P_WeightDraft_init [] := T.F_WeightDraft_init.binds fun _ _ _ _ _ _ us hl => match us, hl with | [_, _], _ => rfl
theorem b_WeightDraft_weigh {K : PySem.W.Frag} {mg : Str → Option Value} {D : Ad} (T : Txt K mg D) : Binds K D.d_WeightDraft_weigh P_WeightDraft_weigh [] := T.F_WeightDraft_weigh.binds fun _ _ _ _ _ _ us hl => match us, hl with | [_, _, _], _ => rfl
theorem b_WeightDraft_weigh_outs {K : PySem.W.Frag} {mg : Str → Option Value} {D : Ad} (T : Txt K mg D) : Binds K D.d_WeightDraft_weigh_outs P_WeightDraft_weigh_outs [] := T.F_WeightDraft_weigh_outs.binds fun _ _ _ _ _ _ us hl => match us, hl with | [_, _], _ => rfl
theorem b_WeightDraft_pass_on {K : PySem.W.Frag} {mg : Str → Option Value} {D : Ad} (T : Txt K mg D) : Binds K D.d_WeightDraft_pass_on P_WeightDraft_pass_on [] := T.F_WeightDraft_pass_on.binds fun _ _ _ _ _ _ us hl => match us, hl with | [_, _, _], _ => rfl
theorem b_WeightDraft_pass_on_quotient {K : PySem.W.Frag} {mg : Str → Option Value} {D : Ad} (T : Txt K mg D) : Binds K D.d_WeightDraft_pass_on_quotient P_WeightDraft_pass_on_quotient [] := T.F_WeightDraft_pass_on_quotient.binds fun _ _ _ _ _ _ us hl => match us, hl with | [_, _, _, _], _ => rfl
theorem b_WeightDraft_put_sum {K : PySem.W.Frag} {mg : Str → Option Value} {D : Ad} (T : Txt K mg D) : Binds K D.d_WeightDraft_put_sum P_WeightDraft_put_sum [] := T.F_WeightDraft_put_sum.binds fun _ _ _ _ _ _ us hl => match us, hl with | [_, _], _ => rfl
theorem b_WeightDraft_gather {K : PySem.W.Frag} {mg : Str → Option Value} {D : Ad} (T : Txt K mg D) : Binds K D.d_WeightDraft_gather P_WeightDraft_gather [] := T.F_WeightDraft_gather.binds fun _ _ _ _ _ _ us hl => match us, hl with | [_, _], _ => rfl
theorem b_backward {K : PySem.W.Frag} {mg : Str → Option Value} {D : Ad} (T : Txt K mg D) : Binds K D.d_backward P_backward [] := T.F_backward.binds fun _ _ _ _ _ _ us hl => match us, hl with | [_], _ => rfl
theorem b_ChangeDraft_init {K : PySem.W.Frag} {mg : Str → Option Value} {D : Ad} (T : Txt K mg D) : Binds K D.d_ChangeDraft_init P_ChangeDraft_init [] := T.F_ChangeDraft_init.binds fun _ _ _ _ _ _ us hl => match us, hl with | [_, _], _ => rfl
theorem b_ChangeDraft_put_change {K : PySem.W.Frag} {mg : Str → Option Value} {D : Ad} (T : Txt K mg D) : Binds K D.d_ChangeDraft_put_change P_ChangeDraft_put_change [] := T.F_ChangeDraft_put_change.binds fun _ _ _ _ _ _ us hl => match us, hl with | [_, _, _], _ => rfl
theorem b_ChangeDraft_opposite_of {K : PySem.W.Frag} {mg : Str → Option Value} {D : Ad} (T : Txt K mg D) : Binds K D.d_ChangeDraft_opposite_of P_ChangeDraft_opposite_of [] := T.F_ChangeDraft_opposite_of.binds fun _ _ _ _ _ _ us hl => match us, hl with | [_, _], _ => rfl
theorem b_ChangeDraft_change_of_sum {K : PySem.W.Frag} {mg : Str → Option Value} {D : Ad} (T : Txt K mg D) : Binds K D.d_ChangeDraft_change_of_sum P_ChangeDraft_change_of_sum [] := T.F_ChangeDraft_change_of_sum.binds fun _ _ _ _ _ _ us hl => match us, hl with | [_, _, _], _ => rfl
theorem b_ChangeDraft_change_of_difference {K : PySem.W.Frag} {mg : Str → Option Value} {D : Ad} (T : Txt K mg D) : Binds K D.d_ChangeDraft_change_of_difference P_ChangeDraft_change_of_difference [] := T.F_ChangeDraft_change_of_difference.binds fun _ _ _ _ _ _ us hl => match us, hl with | [_, _, _], _ => rfl
theorem b_ChangeDraft_change_of_product {K : PySem.W.Frag} {mg : Str → Option Value} {D : Ad} (T : Txt K mg D) : Binds K D.d_ChangeDraft_change_of_product P_ChangeDraft_change_of_product [] := T.F_ChangeDraft_change_of_product.binds fun _ _ _ _ _ _ us hl => match us, hl with | [_, _, _], _ => rfl
theorem b_ChangeDraft_change_of_quotient {K : PySem.W.Frag} {mg : Str → Option Value} {D : Ad} (T : Txt K mg D) : Binds K D.d_ChangeDraft_change_of_quotient P_ChangeDraft_change_of_quotient [] := T.F_ChangeDraft_change_of_quotient.binds fun _ _ _ _ _ _ us hl => match us, hl with | [_, _, _, _], _ => rfl
theorem b_ChangeDraft_divided {K : PySem.W.Frag} {mg : Str → Option Value} {D : Ad} (T : Txt K mg D) : Binds K D.d_ChangeDraft_divided P_ChangeDraft_divided [] := T.F_ChangeDraft_divided.binds fun _ _ _ _ _ _ us hl => match us, hl with | [_, _, _], _ => rfl
theorem b_ChangeDraft_put_out {K : PySem.W.Frag} {mg : Str → Option Value} {D : Ad} (T : Txt K mg D) : Binds K D.d_ChangeDraft_put_out P_ChangeDraft_put_out [] := T.F_ChangeDraft_put_out.binds fun _ _ _ _ _ _ us hl => match us, hl with | [_, _], _ => rfl
theorem b_forward {K : PySem.W.Frag} {mg : Str → Option Value} {D : Ad} (T : Txt K mg D) : Binds K D.d_forward P_forward [] := T.F_forward.binds fun _ _ _ _ _ _ us hl => match us, hl with | [_], _ => rfl
theorem b_common_divisor {K : PySem.W.Frag} {mg : Str → Option Value} {D : Ad} (T : Txt K mg D) : Binds K D.d_common_divisor P_common_divisor [] := T.F_common_divisor.binds fun _ _ _ _ _ _ us hl => match us, hl with | [_, _], _ => rfl
theorem b_lowest {K : PySem.W.Frag} {mg : Str → Option Value} {D : Ad} (T : Txt K mg D) : Binds K D.d_lowest P_lowest [] := T.F_lowest.binds fun _ _ _ _ _ _ us hl => match us, hl with | [_, _], _ => rfl
theorem b_weight {K : PySem.W.Frag} {mg : Str → Option Value} {D : Ad} (T : Txt K mg D) : Binds K D.d_weight P_weight [] := T.F_weight.binds fun _ _ _ _ _ _ us hl => match us, hl with | [_], _ => rfl
theorem b_opposite {K : PySem.W.Frag} {mg : Str → Option Value} {D : Ad} (T : Txt K mg D) : Binds K D.d_opposite P_opposite [] := T.F_opposite.binds fun _ _ _ _ _ _ us hl => match us, hl with | [_], _ => rfl
theorem b_plus {K : PySem.W.Frag} {mg : Str → Option Value} {D : Ad} (T : Txt K mg D) : Binds K D.d_plus P_plus [] := T.F_plus.binds fun _ _ _ _ _ _ us hl => match us, hl with | [_, _], _ => rfl
theorem b_minus {K : PySem.W.Frag} {mg : Str → Option Value} {D : Ad} (T : Txt K mg D) : Binds K D.d_minus P_minus [] := T.F_minus.binds fun _ _ _ _ _ _ us hl => match us, hl with | [_, _], _ => rfl
theorem b_times {K : PySem.W.Frag} {mg : Str → Option Value} {D : Ad} (T : Txt K mg D) : Binds K D.d_times P_times [] := T.F_times.binds fun _ _ _ _ _ _ us hl => match us, hl with | [_, _], _ => rfl
theorem b_over {K : PySem.W.Frag} {mg : Str → Option Value} {D : Ad} (T : Txt K mg D) : Binds K D.d_over P_over [] := T.F_over.binds fun _ _ _ _ _ _ us hl => match us, hl with | [_, _], _ => rfl
theorem b_Refusal_init {K : PySem.W.Frag} {mg : Str → Option Value} {D : Ad} (T : Txt K mg D) : Binds K D.d_Refusal_init P_Refusal_init [] := T.F_Refusal_init.binds fun _ _ _ _ _ _ us hl => match us, hl with | [_, _], _ => rfl
theorem b_OutOfRange_init {K : PySem.W.Frag} {mg : Str → Option Value} {D : Ad} (T : Txt K mg D) : Binds K D.d_OutOfRange_init P_OutOfRange_init [] := T.F_OutOfRange_init.binds fun _ _ _ _ _ _ us hl => match us, hl with | [_], _ => rfl
theorem b_BadForm_init {K : PySem.W.Frag} {mg : Str → Option Value} {D : Ad} (T : Txt K mg D) : Binds K D.d_BadForm_init P_BadForm_init [] := T.F_BadForm_init.binds fun _ _ _ _ _ _ us hl => match us, hl with | [_], _ => rfl
theorem b_NotThere_init {K : PySem.W.Frag} {mg : Str → Option Value} {D : Ad} (T : Txt K mg D) : Binds K D.d_NotThere_init P_NotThere_init [] := T.F_NotThere_init.binds fun _ _ _ _ _ _ us hl => match us, hl with | [_], _ => rfl
theorem b_TooLarge_init {K : PySem.W.Frag} {mg : Str → Option Value} {D : Ad} (T : Txt K mg D) : Binds K D.d_TooLarge_init P_TooLarge_init [] := T.F_TooLarge_init.binds fun _ _ _ _ _ _ us hl => match us, hl with | [_], _ => rfl
theorem b_check_choice {K : PySem.W.Frag} {mg : Str → Option Value} {D : Ad} (T : Txt K mg D) : Binds K D.d_check_choice P_check_choice [] := T.F_check_choice.binds fun _ _ _ _ _ _ us hl => match us, hl with | [_, _], _ => rfl
theorem b_read_line {K : PySem.W.Frag} {mg : Str → Option Value} {D : Ad} (T : Txt K mg D) : Binds K D.d_read_line P_read_line [] := T.F_read_line.binds fun _ _ _ _ _ _ us hl => match us, hl with | [_, _], _ => rfl
theorem b_read_lines {K : PySem.W.Frag} {mg : Str → Option Value} {D : Ad} (T : Txt K mg D) : Binds K D.d_read_lines P_read_lines [] := T.F_read_lines.binds fun _ _ _ _ _ _ us hl => match us, hl with | [_], _ => rfl
theorem b_check_uses {K : PySem.W.Frag} {mg : Str → Option Value} {D : Ad} (T : Txt K mg D) : Binds K D.d_check_uses P_check_uses [] := T.F_check_uses.binds fun _ _ _ _ _ _ us hl => match us, hl with | [_, _], _ => rfl
theorem b_check_outs {K : PySem.W.Frag} {mg : Str → Option Value} {D : Ad} (T : Txt K mg D) : Binds K D.d_check_outs P_check_outs [] := T.F_check_outs.binds fun _ _ _ _ _ _ us hl => match us, hl with | [_, _], _ => rfl
theorem b_read_program {K : PySem.W.Frag} {mg : Str → Option Value} {D : Ad} (T : Txt K mg D) : Binds K D.d_read_program P_read_program [] := T.F_read_program.binds fun _ _ _ _ _ _ us hl => match us, hl with | [_, _, _], _ => rfl
theorem b_read_fractions {K : PySem.W.Frag} {mg : Str → Option Value} {D : Ad} (T : Txt K mg D) : Binds K D.d_read_fractions P_read_fractions [] := T.F_read_fractions.binds fun _ _ _ _ _ _ us hl => match us, hl with | [_, _], _ => rfl
theorem b_worked_out {K : PySem.W.Frag} {mg : Str → Option Value} {D : Ad} (T : Txt K mg D) : Binds K D.d_worked_out P_worked_out [] := T.F_worked_out.binds fun _ _ _ _ _ _ us hl => match us, hl with | [_, _, _], _ => rfl
theorem b_run {K : PySem.W.Frag} {mg : Str → Option Value} {D : Ad} (T : Txt K mg D) : Binds K D.d_run P_run [] := T.F_run.binds fun _ _ _ _ _ _ us hl => match us, hl with | [_, _], _ => rfl
theorem b_is_too_large {K : PySem.W.Frag} {mg : Str → Option Value} {D : Ad} (T : Txt K mg D) : Binds K D.d_is_too_large P_is_too_large [] := T.F_is_too_large.binds fun _ _ _ _ _ _ us hl => match us, hl with | [_], _ => rfl
theorem b_check_text {K : PySem.W.Frag} {mg : Str → Option Value} {D : Ad} (T : Txt K mg D) : Binds K D.d_check_text P_check_text [] := T.F_check_text.binds fun _ _ _ _ _ _ us hl => match us, hl with | [_], _ => rfl
theorem b_input_name {K : PySem.W.Frag} {mg : Str → Option Value} {D : Ad} (T : Txt K mg D) : Binds K D.d_input_name P_input_name [] := T.F_input_name.binds fun _ _ _ _ _ _ us hl => match us, hl with | [_], _ => rfl
theorem b_constant_name {K : PySem.W.Frag} {mg : Str → Option Value} {D : Ad} (T : Txt K mg D) : Binds K D.d_constant_name P_constant_name [] := T.F_constant_name.binds fun _ _ _ _ _ _ us hl => match us, hl with | [_, _], _ => rfl
theorem b_line_name {K : PySem.W.Frag} {mg : Str → Option Value} {D : Ad} (T : Txt K mg D) : Binds K D.d_line_name P_line_name [] := T.F_line_name.binds fun _ _ _ _ _ _ us hl => match us, hl with | [_, _], _ => rfl
theorem b_let_part {K : PySem.W.Frag} {mg : Str → Option Value} {D : Ad} (T : Txt K mg D) : Binds K D.d_let_part P_let_part [] := T.F_let_part.binds fun _ _ _ _ _ _ us hl => match us, hl with | [_, _, _], _ => rfl
theorem b_text_of {K : PySem.W.Frag} {mg : Str → Option Value} {D : Ad} (T : Txt K mg D) : Binds K D.d_text_of P_text_of [] := T.F_text_of.binds fun _ _ _ _ _ _ us hl => match us, hl with | [_], _ => rfl
theorem b_needed_ones {K : PySem.W.Frag} {mg : Str → Option Value} {D : Ad} (T : Txt K mg D) : Binds K D.d_needed_ones P_needed_ones [] := T.F_needed_ones.binds fun _ _ _ _ _ _ us hl => match us, hl with | [_], _ => rfl
theorem b_needed_lines {K : PySem.W.Frag} {mg : Str → Option Value} {D : Ad} (T : Txt K mg D) : Binds K D.d_needed_lines P_needed_lines [] := T.F_needed_lines.binds fun _ _ _ _ _ _ us hl => match us, hl with | [_], _ => rfl
theorem b_renamed {K : PySem.W.Frag} {mg : Str → Option Value} {D : Ad} (T : Txt K mg D) : Binds K D.d_renamed P_renamed [] := T.F_renamed.binds fun _ _ _ _ _ _ us hl => match us, hl with | [_, _], _ => rfl
theorem b_trimmed {K : PySem.W.Frag} {mg : Str → Option Value} {D : Ad} (T : Txt K mg D) : Binds K D.d_trimmed P_trimmed [] := T.F_trimmed.binds fun _ _ _ _ _ _ us hl => match us, hl with | [_], _ => rfl
theorem b_trimmed_if {K : PySem.W.Frag} {mg : Str → Option Value} {D : Ad} (T : Txt K mg D) : Binds K D.d_trimmed_if P_trimmed_if [] := T.F_trimmed_if.binds fun _ _ _ _ _ _ us hl => match us, hl with | [_, _], _ => rfl
theorem b_Held_init {K : PySem.W.Frag} {mg : Str → Option Value} {D : Ad} (T : Txt K mg D) : Binds K D.d_Held_init P_Held_init [] := T.F_Held_init.binds fun _ _ _ _ _ _ us hl => match us, hl with | [_], _ => rfl
theorem b_Held_answer_call {K : PySem.W.Frag} {mg : Str → Option Value} {D : Ad} (T : Txt K mg D) : Binds K D.d_Held_answer_call P_Held_answer_call [] := T.F_Held_answer_call.binds fun _ _ _ _ _ _ us hl => match us, hl with | [_, _, _, _], _ => rfl
theorem b_Held_take_code {K : PySem.W.Frag} {mg : Str → Option Value} {D : Ad} (T : Txt K mg D) : Binds K D.d_Held_take_code P_Held_take_code [] := T.F_Held_take_code.binds fun _ _ _ _ _ _ us hl => match us, hl with | [_, _, _, _], _ => rfl
theorem b_Held_tell_back {K : PySem.W.Frag} {mg : Str → Option Value} {D : Ad} (T : Txt K mg D) : Binds K D.d_Held_tell_back P_Held_tell_back [] := T.F_Held_tell_back.binds fun _ _ _ _ _ _ us hl => match us, hl with | [_, _], _ => rfl
theorem b_Held_tell_ahead {K : PySem.W.Frag} {mg : Str → Option Value} {D : Ad} (T : Txt K mg D) : Binds K D.d_Held_tell_ahead P_Held_tell_ahead [] := T.F_Held_tell_ahead.binds fun _ _ _ _ _ _ us hl => match us, hl with | [_, _], _ => rfl
theorem b_Held_adopt_derivative {K : PySem.W.Frag} {mg : Str → Option Value} {D : Ad} (T : Txt K mg D) : Binds K D.d_Held_adopt_derivative P_Held_adopt_derivative [] := T.F_Held_adopt_derivative.binds fun _ _ _ _ _ _ us hl => match us, hl with | [_, _, _], _ => rfl
theorem b_Held_run_held {K : PySem.W.Frag} {mg : Str → Option Value} {D : Ad} (T : Txt K mg D) : Binds K D.d_Held_run_held P_Held_run_held [] := T.F_Held_run_held.binds fun _ _ _ _ _ _ us hl => match us, hl with | [_, _], _ => rfl
theorem b_Held_run_gradient {K : PySem.W.Frag} {mg : Str → Option Value} {D : Ad} (T : Txt K mg D) : Binds K D.d_Held_run_gradient P_Held_run_gradient [] := T.F_Held_run_gradient.binds fun _ _ _ _ _ _ us hl => match us, hl with | [_, _, _], _ => rfl
theorem b_Held_run_change {K : PySem.W.Frag} {mg : Str → Option Value} {D : Ad} (T : Txt K mg D) : Binds K D.d_Held_run_change P_Held_run_change [] := T.F_Held_run_change.binds fun _ _ _ _ _ _ us hl => match us, hl with | [_, _, _], _ => rfl
theorem b_Held_tell_ops {K : PySem.W.Frag} {mg : Str → Option Value} {D : Ad} (T : Txt K mg D) : Binds K D.d_Held_tell_ops P_Held_tell_ops [] := T.F_Held_tell_ops.binds fun _ _ _ _ _ _ us hl => match us, hl with | [_], _ => rfl
theorem b_Held_tell_text {K : PySem.W.Frag} {mg : Str → Option Value} {D : Ad} (T : Txt K mg D) : Binds K D.d_Held_tell_text P_Held_tell_text [] := T.F_Held_tell_text.binds fun _ _ _ _ _ _ us hl => match us, hl with | [_, _], _ => rfl
theorem b_Held_tell_needed {K : PySem.W.Frag} {mg : Str → Option Value} {D : Ad} (T : Txt K mg D) : Binds K D.d_Held_tell_needed P_Held_tell_needed [] := T.F_Held_tell_needed.binds fun _ _ _ _ _ _ us hl => match us, hl with | [_], _ => rfl
theorem b_Taker_init {K : PySem.W.Frag} {mg : Str → Option Value} {D : Ad} (T : Txt K mg D) : Binds K D.d_Taker_init P_Taker_init [] := T.F_Taker_init.binds fun _ _ _ _ _ _ us hl => match us, hl with | [_, _], _ => rfl
theorem b_Taker_is_done {K : PySem.W.Frag} {mg : Str → Option Value} {D : Ad} (T : Txt K mg D) : Binds K D.d_Taker_is_done P_Taker_is_done [] := T.F_Taker_is_done.binds fun _ _ _ _ _ _ us hl => match us, hl with | [_], _ => rfl
theorem b_Taker_take {K : PySem.W.Frag} {mg : Str → Option Value} {D : Ad} (T : Txt K mg D) : Binds K D.d_Taker_take P_Taker_take [] := T.F_Taker_take.binds fun _ _ _ _ _ _ us hl => match us, hl with | [_, _], _ => rfl
theorem b_Taker_take_number {K : PySem.W.Frag} {mg : Str → Option Value} {D : Ad} (T : Txt K mg D) : Binds K D.d_Taker_take_number P_Taker_take_number [] := T.F_Taker_take_number.binds fun _ _ _ _ _ _ us hl => match us, hl with | [_], _ => rfl
theorem b_Taker_take_row {K : PySem.W.Frag} {mg : Str → Option Value} {D : Ad} (T : Txt K mg D) : Binds K D.d_Taker_take_row P_Taker_take_row [] := T.F_Taker_take_row.binds fun _ _ _ _ _ _ us hl => match us, hl with | [_], _ => rfl
theorem b_answer_next {K : PySem.W.Frag} {mg : Str → Option Value} {D : Ad} (T : Txt K mg D) : Binds K D.d_answer_next P_answer_next [] := T.F_answer_next.binds fun _ _ _ _ _ _ us hl => match us, hl with | [_, _], _ => rfl
theorem b_answers {K : PySem.W.Frag} {mg : Str → Option Value} {D : Ad} (T : Txt K mg D) : Binds K D.d_answers P_answers [] := T.F_answers.binds fun _ _ _ _ _ _ us hl => match us, hl with | [_], _ => rfl
end Lc
set_option Elab.async false
set_option linter.all false
set_option maxRecDepth 100000
set_option maxHeartbeats 4000000
/-! How programs lie in the heap. -/
namespace Lc
open PySem PySem.Spec PyProof.Rows L2
open Vagraa (Frac frac)
open VagraLine (Line)
open Vagrai (Prog Work)
theorem ifT {c : Bool} {A B : Prop} (hc : c = true) (h : A) : if c = true then A else B := by subst hc; exact h
theorem ifF {c : Bool} {A B : Prop} (hc : c = false) (h : B) : if c = true then A else B := by subst hc; exact h
theorem same_upd {H : Hp} {q : Addr} {o : HO} (h : H q = none) : Same H (upd H q o) := fun b x e => by rw [upd_ne (ne_of_none e h)]; exact e
theorem sqT_same {K : PySem.W.Frag} {H H' : Hp} {a : Addr} {xs : List V} (e : Same H H') (h : SqT K H a xs) : SqT K H' a xs := by
  rcases h with (h | ⟨o, h⟩) | h
  · exact .inl (.inl (e _ _ h))
  · exact .inl (.inr ⟨o, e _ _ h⟩)
  · exact .inr h
/-- hands back a tuple that was not there, with these items; all that was there stands -/
def GiveT (H : Hp) (Q : VK) (xs : List V) : Prop := ∀ (H' : Hp) (q : Addr), Same H H' → H q = none → H' q = some (.tup xs) → Q (.ref q) H'
theorem GiveT.now {H : Hp} {Q : VK} {xs ys : List V} (k : GiveT H Q xs) (e : xs = ys) {q : Addr} (h : H q = none) : Q (.ref q) (upd H q (.tup ys)) := by
  subst e
  exact k _ q (same_upd h) h upd_same
theorem GiveT.later {H H1 : Hp} {Q : VK} {xs : List V} (k : GiveT H Q xs) (e : Same H H1) : GiveT H1 Q xs := fun H' q e2 hq h => k H' q (e.trans e2) (e.free hq) h
/-- .. a list -/
def GiveL (H : Hp) (Q : VK) (xs : List V) : Prop := ∀ (H' : Hp) (q : Addr), Same H H' → H q = none → H' q = some (.lst xs) → Q (.ref q) H'
theorem GiveL.now {H : Hp} {Q : VK} {xs ys : List V} (k : GiveL H Q xs) (e : xs = ys) {q : Addr} (h : H q = none) : Q (.ref q) (upd H q (.lst ys)) := by
  subst e
  exact k _ q (same_upd h) h upd_same
theorem GiveL.later {H H1 : Hp} {Q : VK} {xs : List V} (k : GiveL H Q xs) (e : Same H H1) : GiveL H1 Q xs := fun H' q e2 hq h => k H' q (e.trans e2) (e.free hq) h
def natV (n : Nat) : V := .int (n : Int)
def optV : Option Nat → V
  | none => .non
  | some n => .int (n : Int)
def lineV (l : Line) : List V := (Line.told l).map V.int
/-- lines one behind the other: the tuples at ps -/
structure Lines (H : Hp) (ps : List Addr) (c : List Line) : Prop where
  len : ps.length = c.length
  at_ : ∀ (i : Nat) (p : Addr) (l : Line), ps[i]? = some p → c[i]? = some l → H p = some (.tup (lineV l))
theorem Lines.nil (H : Hp) : Lines H [] [] := ⟨rfl, fun i p l e => by simp at e⟩
theorem Lines.keep {H H' : Hp} {ps : List Addr} {c : List Line} (h : Lines H ps c) (k : ∀ (p : Addr) (xs : List V), H p = some (.tup xs) → H' p = some (.tup xs)) : Lines H' ps c := ⟨h.len, fun i p l e1 e2 => k _ _ (h.at_ i p l e1 e2)⟩
theorem Lines.snoc {H : Hp} {ps : List Addr} {c : List Line} {p : Addr} {l : Line} (h : Lines H ps c) (hp : H p = some (.tup (lineV l))) : Lines H (ps ++ [p]) (c ++ [l]) := by
  refine ⟨by simp [h.len], fun i q m e1 e2 => ?_⟩
  rw [List.getElem?_append] at e1 e2
  rw [h.len] at e1
  by_cases hi : i < c.length
  · rw [if_pos hi] at e1 e2
    exact h.at_ i q m e1 e2
  · rw [if_neg hi] at e1 e2
    have z : i - c.length = 0 := by
      cases k : i - c.length with
      | zero => rfl
      | succ n => rw [k] at e1; simp at e1
    rw [z] at e1 e2
    have e1 : p = q := by simpa using e1
    have e2 : l = m := by simpa using e2
    subst e1 e2
    exact hp
theorem Lines.get {H : Hp} {ps : List Addr} {c : List Line} {i : Nat} {l : Line} (h : Lines H ps c) (e : c[i]? = some l) : ∃ p, ps[i]? = some p ∧ H p = some (.tup (lineV l)) := by
  have hi : i < ps.length := by rw [h.len]; exact (List.getElem?_eq_some_iff.mp e).1
  exact ⟨ps[i], List.getElem?_eq_getElem hi, h.at_ i _ l (List.getElem?_eq_getElem hi) e⟩
theorem Lines.get' {H : Hp} {ps : List Addr} {c : List Line} {i : Nat} {p : Addr} (h : Lines H ps c) (e : ps[i]? = some p) : ∃ l, c[i]? = some l ∧ H p = some (.tup (lineV l)) := by
  have hi : i < c.length := by rw [← h.len]; exact (List.getElem?_eq_some_iff.mp e).1
  exact ⟨c[i], List.getElem?_eq_getElem hi, h.at_ i p _ e (List.getElem?_eq_getElem hi)⟩
/-- a list of lines at a -/
def LinesAt (H : Hp) (a : Addr) (c : List Line) : Prop := ∃ ps : List Addr, H a = some (.lst (ps.map V.ref)) ∧ Lines H ps c
theorem LinesAt.same {H H' : Hp} {a : Addr} {c : List Line} (e : Same H H') (h : LinesAt H a c) : LinesAt H' a c := by
  obtain ⟨ps, h1, h2⟩ := h
  exact ⟨ps, e _ _ h1, h2.keep fun p xs z => e _ _ z⟩
/-- all but what stands at a is as it was -/
def But (H H' : Hp) (a : Addr) : Prop := ∀ b o, H b = some o → b ≠ a → H' b = some o
def But2 (H H' : Hp) (a c : Addr) : Prop := ∀ b o, H b = some o → b ≠ a → b ≠ c → H' b = some o
theorem But.tup {H H' : Hp} {a : Addr} {xs : List V} (h : But H H' a) (ha : H a = some (.lst xs)) {p : Addr} {ys : List V} (hp : H p = some (.tup ys)) : H' p = some (.tup ys) := h _ _ hp (ne_of hp ha nofun)
theorem Same.but {H H' H'' : Hp} {a : Addr} (e : Same H H') (k : But H' H'' a) : But H H'' a := fun b o z y => k b o (e b o z) y
theorem Same.but_new {H H' H'' : Hp} {a : Addr} (e : Same H H') (ha : H a = none) (k : But H' H'' a) : Same H H'' := fun b o z => k b o (e b o z) (ne_of_none z ha)
theorem Same.but2_new {H H' H'' : Hp} {a c : Addr} (e : Same H H') (ha : H a = none) (hc : H c = none) (k : But2 H' H'' a c) : Same H H'' := fun b o z => k b o (e b o z) (ne_of_none z ha) (ne_of_none z hc)
theorem But2.trans {H H' H'' : Hp} {a c : Addr} (h : But2 H H' a c) (k : But2 H' H'' a c) : But2 H H'' a c := fun b o z y1 y2 => k b o (h b o z y1 y2) y1 y2
theorem Same.but2 {H H' : Hp} {a c : Addr} (e : Same H H') : But2 H H' a c := fun b o z _ _ => e b o z
theorem But.but2 {H H' : Hp} {a c : Addr} (e : But H H' a) : But2 H H' a c := fun b o z y _ => e b o z y
theorem But.but2' {H H' : Hp} {a c : Addr} (e : But H H' c) : But2 H H' a c := fun b o z _ y => e b o z y
/-- a program's object -/
def progF (n : Nat) (la oa : Addr) : List (Str × V) := [("inputs", .int (n : Int)), ("lines", .ref la), ("outs", .ref oa)]
structure ProgL (D : Ad) (H : Hp) (pa dx pl po : Addr) (ps : List Addr) (p : Prog) : Prop where
  obj : H pa = some (.ins D.c_Program dx (progF p.inputs pl po))
  lst : H pl = some (.lst (ps.map V.ref))
  lines : Lines H ps p.code
  outs : H po = some (.lst (p.outs.map natV))
theorem ProgL.same {D : Ad} {H H' : Hp} {pa dx pl po : Addr} {ps : List Addr} {p : Prog} (h : ProgL D H pa dx pl po ps p) (e : Same H H') : ProgL D H' pa dx pl po ps p :=
  ⟨e _ _ h.obj, e _ _ h.lst, h.lines.keep fun q xs z => e _ _ z, e _ _ h.outs⟩
theorem ProgL.but2 {D : Ad} {H H' : Hp} {pa dx pl po la ha : Addr} {ps : List Addr} {p : Prog} {xs ys : List V} (h : ProgL D H pa dx pl po ps p) (hl : H la = some (.lst xs)) (hh : H ha = some (.lst ys)) (n1 : pl ≠ la) (n2 : pl ≠ ha) (n3 : po ≠ la) (n4 : po ≠ ha) (k : But2 H H' la ha) :
    ProgL D H' pa dx pl po ps p :=
  ⟨k _ _ h.obj (ne_of h.obj hl nofun) (ne_of h.obj hh nofun), k _ _ h.lst n1 n2, h.lines.keep fun q zs z => k _ _ z (ne_of z hl nofun) (ne_of z hh nofun), k _ _ h.outs n3 n4⟩
theorem ProgL.at_ {D : Ad} {H : Hp} {pa dx pl po : Addr} {ps : List Addr} {p : Prog} (h : ProgL D H pa dx pl po ps p) : LinesAt H pl p.code := ⟨ps, h.lst, h.lines⟩
def ProgAt (D : Ad) (H : Hp) (pa : Addr) (p : Prog) : Prop := ∃ (dx pl po : Addr) (ps : List Addr), ProgL D H pa dx pl po ps p
theorem ProgAt.same {D : Ad} {H H' : Hp} {pa : Addr} {p : Prog} (e : Same H H') (h : ProgAt D H pa p) : ProgAt D H' pa p := by
  obtain ⟨dx, pl, po, ps, h⟩ := h
  exact ⟨dx, pl, po, ps, h.same e⟩
theorem lk_inputs (n : Nat) (la oa : Addr) : (progF n la oa).lookup ("inputs" : Str) = some (.int (n : Int)) := rfl
theorem lk_lines (n : Nat) (la oa : Addr) : (progF n la oa).lookup ("lines" : Str) = some (.ref la) := rfl
theorem lk_outs (n : Nat) (la oa : Addr) : (progF n la oa).lookup ("outs" : Str) = some (.ref oa) := rfl
/-- hands back a new program -/
def GiveP (D : Ad) (H : Hp) (Q : VK) (P : Prog) : Prop := ∀ (H' : Hp) (q : Addr), Same H H' → H q = none → ProgAt D H' q P → Q (.ref q) H'
end Lc
set_option Elab.async false
set_option linter.all false
set_option maxRecDepth 100000
set_option maxHeartbeats 4000000
namespace Lc
open PySem PySem.Spec PyProof.Rows L2
open Vagraa (Frac frac)
open VagraLine (Line)
open Vagrai (Prog Work)
variable {P : Program} {w : World} {K : PySem.W.Frag} {mg : Str → Option Value} {base : Heap} {D : Ad}
/-! ### common_divisor -/
def spCd : Sp := fun vs H Q _ => ∃ a b : Int, vs = [.int a, .int b] ∧ 0 < b ∧ Q (.int (Int.gcd a b)) H
def muCd : L2.St → Hp → Nat := fun σ _ => match σ with
  | [_, some (.int b), _] => b.toNat
  | _ => 0
theorem gcd_turn (a : Int) {b : Int} (hb : 0 < b) : Int.gcd b (a % b) = Int.gcd a b := by
  have e : a % b + a / b * b = a := by rw [Int.mul_comm]; exact Int.emod_add_mul_ediv a b
  have h := Int.gcd_add_mul_right_left b (a % b) (a / b)
  rw [e] at h
  rw [Int.gcd_comm b, h]
theorem ok_common_divisor (T : Txt K mg D) : FnOk P w K mg base CX0 1 D.a_common_divisor D.d_common_divisor P_common_divisor (spCd) := by
  refine T.F_common_divisor.ok sc_common_divisor (fun vs H Q E h => by first | (obtain ⟨rfl, _⟩ := h; rfl) | (obtain ⟨_, rfl, _⟩ := h; rfl) | (obtain ⟨_, _, rfl, _⟩ := h; rfl) | (obtain ⟨_, _, _, rfl, _⟩ := h; rfl) | (obtain ⟨_, _, _, _, rfl, _⟩ := h; rfl) | (obtain ⟨_, _, _, _, _, rfl, _⟩ := h; rfl) | (obtain ⟨_, _, _, _, _, _, rfl, _⟩ := h; rfl) | (obtain ⟨_, _, _, _, _, _, _, rfl, _⟩ := h; rfl) | (obtain ⟨_, _, _, _, _, _, _, _, rfl, _⟩ := h; rfl) | (obtain ⟨_, _, _, _, _, _, _, _, _, rfl, _⟩ := h; rfl) | (obtain ⟨_, _, _, _, _, _, _, _, _, _, rfl, _⟩ := h; rfl) | (obtain ⟨_, _, _, _, _, _, _, _, _, _, _, rfl, _⟩ := h; rfl) | (obtain ⟨_, _, _, _, _, _, _, _, _, _, _, _, rfl, _⟩ := h; rfl)) (fun cdv A outer s H vs Q E hr h => ?_)
  refine ⟨_, (pss_cons (ps_while PassesOwn.never (pt_truth (pv 1) (fun _ => rfl)) (pss_cons (ps_set (i := 2) sc_common_divisor.nd rfl (.inl rfl) (pe_op op_mod (pv 0) (pv 1)))
      (pss_cons (ps_set (i := 0) sc_common_divisor.nd rfl (.inl rfl) (pv 1))
      (pss_one (ps_set (i := 1) sc_common_divisor.nd rfl (.inl rfl) (pv 2))))))
    (pss_one (ps_ret (pv 0)))), ?_⟩
  obtain ⟨a, b, rfl, hb, k⟩ := h
  refine while_by (fun σ H' => H' = H ∧ ∃ (x y : Int) (r : Option V), σ = [some (.int x), some (.int y), r] ∧ 0 ≤ y ∧ (y = 0 → 0 ≤ x) ∧ Int.gcd x y = Int.gcd a b) muCd ⟨rfl, a, b, none, rfl, by omega, by omega, rfl⟩ ?_ ?_
  · rintro σ H' ⟨rfl, x, y, r, rfl, hy, hx, hg⟩
    refine ⟨_, rfl, _, rfl, ?_⟩
    by_cases z : y = 0
    · subst z
      refine ⟨_, rfl, ?_⟩
      have e : ((Int.gcd a b : Nat) : Int) = x := by rw [← hg, Int.gcd_zero_right]; have := hx rfl; omega
      rw [e] at k
      exact k
    · have hne : (y != 0) = true := by simpa using z
      rw [hne]
      refine ⟨_, rfl, _, rfl, _, _, rfl, rfl, by omega, ?_⟩
      refine ⟨_, rfl, _, rfl, ⟨rfl, y, x % y, _, rfl, Int.emod_nonneg _ z, by omega, ?_⟩, ?_⟩
      · rw [gcd_turn x (by omega)]; exact hg
      · show (x % y).toNat < y.toNat
        have := Int.emod_lt_of_pos x (show 0 < y by omega)
        omega
  · rintro σ H' Q1 Q2 hq ⟨v, e, k1, t, q⟩
    exact ⟨v, e, k1, t, hq _ _ q⟩
def fracV (a : Frac) : List V := [.int a.num, .int (a.den : Int)]
def Small (a : Frac) : Prop := a.num.natAbs < 2 ^ 4000 ∧ a.den < 2 ^ 4000
theorem frac_is {n : Int} {d : Nat} (hd : 0 < d) : frac n d = ⟨n / (Int.gcd n d : Nat), d / Int.gcd n d⟩ := by
  unfold frac
  rw [if_neg (by omega)]
  rfl
theorem gcd_pos_r (a : Int) {b : Int} (h : 0 < b) : (0 : Int) < (Int.gcd a b : Nat) := by
  have : 0 < Int.gcd a b := Nat.gcd_pos_of_pos_right _ (by omega)
  omega
theorem gcd_le_r (a : Int) {b : Nat} (h : 0 < b) : Int.gcd a (b : Int) ≤ b := Nat.le_of_dvd h (Nat.gcd_dvd_right _ _)
theorem cdiv_gcd (x a : Int) {b n : Nat} (h : 0 < b) (hb : b < 2 ^ n) (h0 : 0 < n) (h9 : n ≤ 9000) : CDivW x (Int.gcd a (b : Int) : Nat) :=
  wide_div (gcd_pos_r a (by omega)) (b := n) (by have := gcd_le_r a h; rw [Int.natAbs_natCast]; omega) h0 h9
def spLowest : Sp := fun vs H Q _ => ∃ (a : Int) (b : Nat), vs = [.int a, .int (b : Int)] ∧ 0 < b ∧ b < 2 ^ 4000 ∧ GiveT H Q (fracV (frac a b))
theorem ok_lowest (T : Txt K mg D) : FnOk P w K mg base CX0 2 D.a_lowest D.d_lowest P_lowest (spLowest) := by
  have G_common_divisor := ok_common_divisor (P := P) (w := w) (base := base) T
  refine T.F_lowest.ok sc_lowest (fun vs H Q E h => by first | (obtain ⟨rfl, _⟩ := h; rfl) | (obtain ⟨_, rfl, _⟩ := h; rfl) | (obtain ⟨_, _, rfl, _⟩ := h; rfl) | (obtain ⟨_, _, _, rfl, _⟩ := h; rfl) | (obtain ⟨_, _, _, _, rfl, _⟩ := h; rfl) | (obtain ⟨_, _, _, _, _, rfl, _⟩ := h; rfl) | (obtain ⟨_, _, _, _, _, _, rfl, _⟩ := h; rfl) | (obtain ⟨_, _, _, _, _, _, _, rfl, _⟩ := h; rfl) | (obtain ⟨_, _, _, _, _, _, _, _, rfl, _⟩ := h; rfl) | (obtain ⟨_, _, _, _, _, _, _, _, _, rfl, _⟩ := h; rfl) | (obtain ⟨_, _, _, _, _, _, _, _, _, _, rfl, _⟩ := h; rfl) | (obtain ⟨_, _, _, _, _, _, _, _, _, _, _, rfl, _⟩ := h; rfl) | (obtain ⟨_, _, _, _, _, _, _, _, _, _, _, _, rfl, _⟩ := h; rfl)) (fun cdv A outer s H vs Q E hr h => ?_)
  refine ⟨_, (pss_cons (ps_set (i := 2) sc_lowest.nd rfl (.inl rfl) (pe_call G_common_divisor (hr.mono (by decide)) rfl T.g_common_divisor T.F_common_divisor.kp (b_common_divisor T) .nil pass0 (pa_cons (pv 0) (pa_cons (pv 1) pa_nil))))
    (pss_one (ps_ret (pe_tup (pa_cons (pe_op op_fdivW (pv 0) (pv 2)) (pa_cons (pe_op op_fdivW (pv 1) (pv 2)) pa_nil)))))), ?_⟩
  obtain ⟨a, b, rfl, hb, hs, k⟩ := h
  refine ⟨_, rfl, _, rfl, a, b, rfl, by omega, ?_⟩
  refine ⟨_, rfl, _, rfl, _, _, rfl, rfl, cdiv_gcd _ _ hb hs (by decide) (by decide), _, rfl, _, rfl, _, _, rfl, rfl, cdiv_gcd _ _ hb hs (by decide) (by decide), (by show 2 ≤ sizeLine; decide), fun q hq => ?_⟩
  refine k.now ?_ hq
  rw [frac_is hb]
  rfl
def spOpposite (K : PySem.W.Frag) : Sp := fun vs H Q _ => ∃ (p : Addr) (a : Frac), vs = [.ref p] ∧ SqT K H p (fracV a) ∧ GiveT H Q (fracV (Vagraa.neg a))
theorem ok_opposite (T : Txt K mg D) : FnOk P w K mg base CX0 1 D.a_opposite D.d_opposite P_opposite (spOpposite K) := by
  refine T.F_opposite.ok sc_opposite (fun vs H Q E h => by first | (obtain ⟨rfl, _⟩ := h; rfl) | (obtain ⟨_, rfl, _⟩ := h; rfl) | (obtain ⟨_, _, rfl, _⟩ := h; rfl) | (obtain ⟨_, _, _, rfl, _⟩ := h; rfl) | (obtain ⟨_, _, _, _, rfl, _⟩ := h; rfl) | (obtain ⟨_, _, _, _, _, rfl, _⟩ := h; rfl) | (obtain ⟨_, _, _, _, _, _, rfl, _⟩ := h; rfl) | (obtain ⟨_, _, _, _, _, _, _, rfl, _⟩ := h; rfl) | (obtain ⟨_, _, _, _, _, _, _, _, rfl, _⟩ := h; rfl) | (obtain ⟨_, _, _, _, _, _, _, _, _, rfl, _⟩ := h; rfl) | (obtain ⟨_, _, _, _, _, _, _, _, _, _, rfl, _⟩ := h; rfl) | (obtain ⟨_, _, _, _, _, _, _, _, _, _, _, rfl, _⟩ := h; rfl) | (obtain ⟨_, _, _, _, _, _, _, _, _, _, _, _, rfl, _⟩ := h; rfl)) (fun cdv A outer s H vs Q E hr h => ?_)
  refine ⟨_, (pss_one (ps_ret (pe_tup (pa_cons (pe_un un_neg (pe_ix ix_tup (pv 0) pe_int (fun _ _ => rfl))) (pa_cons (pe_ix ix_tup (pv 0) pe_int (fun _ _ => rfl)) pa_nil))))), ?_⟩
  obtain ⟨p, a, rfl, hp, k⟩ := h
  refine ⟨_, rfl, _, _, _, _, rfl, rfl, hp, rfl, _, rfl, _, rfl, _, _, _, _, rfl, rfl, hp, rfl, (by show 2 ≤ sizeLine; decide), fun q hq => ?_⟩
  exact k.now rfl hq
def spWeight (K : PySem.W.Frag) : Sp := fun vs H Q _ => ∃ (p : Addr) (a : Frac), vs = [.ref p] ∧ SqT K H p (fracV a) ∧ Q (.int (Vagraa.weight a : Nat)) H
theorem bits_is (n : Int) : Builtin.Int.intBits n = Vagraa.bits n.natAbs := by
  unfold Builtin.Int.intBits Vagraa.bits
  split <;> simp_all
theorem ok_weight (T : Txt K mg D) : FnOk P w K mg base CX0 1 D.a_weight D.d_weight P_weight (spWeight K) := by
  refine T.F_weight.ok sc_weight (fun vs H Q E h => by first | (obtain ⟨rfl, _⟩ := h; rfl) | (obtain ⟨_, rfl, _⟩ := h; rfl) | (obtain ⟨_, _, rfl, _⟩ := h; rfl) | (obtain ⟨_, _, _, rfl, _⟩ := h; rfl) | (obtain ⟨_, _, _, _, rfl, _⟩ := h; rfl) | (obtain ⟨_, _, _, _, _, rfl, _⟩ := h; rfl) | (obtain ⟨_, _, _, _, _, _, rfl, _⟩ := h; rfl) | (obtain ⟨_, _, _, _, _, _, _, rfl, _⟩ := h; rfl) | (obtain ⟨_, _, _, _, _, _, _, _, rfl, _⟩ := h; rfl) | (obtain ⟨_, _, _, _, _, _, _, _, _, rfl, _⟩ := h; rfl) | (obtain ⟨_, _, _, _, _, _, _, _, _, _, rfl, _⟩ := h; rfl) | (obtain ⟨_, _, _, _, _, _, _, _, _, _, _, rfl, _⟩ := h; rfl) | (obtain ⟨_, _, _, _, _, _, _, _, _, _, _, _, rfl, _⟩ := h; rfl)) (fun cdv A outer s H vs Q E hr h => ?_)
  refine ⟨_, (pss_one (ps_ret (pe_op op_add (pe_bits (pe_callB call_abs (by rfl) T.f_abs (by decide +kernel) (pa_cons (pe_ix ix_tup (pv 0) pe_int (fun _ _ => rfl)) pa_nil))) (pe_bits (pe_ix ix_tup (pv 0) pe_int (fun _ _ => rfl)))))), ?_⟩
  obtain ⟨p, a, rfl, hp, k⟩ := h
  refine ⟨_, rfl, _, _, _, _, rfl, rfl, hp, rfl, _, rfl, _, rfl, _, rfl, _, _, _, _, rfl, rfl, hp, rfl, _, rfl, _, _, rfl, rfl, ?_⟩
  have e : (((Builtin.Int.intBits (if a.num < 0 then -a.num else a.num) : Nat) : Int) + ((Builtin.Int.intBits (a.den : Int) : Nat) : Int)) = ((Vagraa.weight a : Nat) : Int) := by
    rw [bits_is, bits_is]
    have e1 : (if a.num < 0 then -a.num else a.num).natAbs = a.num.natAbs := by split <;> omega
    rw [e1]
    rfl
  show Q (.int (((Builtin.Int.intBits (if a.num < 0 then -a.num else a.num) : Nat) : Int) + ((Builtin.Int.intBits (a.den : Int) : Nat) : Int))) H
  rw [e]
  exact k
/-! ### plus, minus, times, over -/
def spTwo (K : PySem.W.Frag) (f : Frac → Frac → Frac) : Sp := fun vs H Q _ => ∃ (p q : Addr) (a b : Frac), vs = [.ref p, .ref q] ∧ SqT K H p (fracV a) ∧ SqT K H q (fracV b) ∧ Low a ∧ Low b ∧ Small a ∧ Small b ∧ GiveT H Q (fracV (f a b))
theorem div_small {x : Int} {n g : Nat} (h : x.natAbs < 2 ^ n) (hg : 0 < g) : (x / (g : Int)).natAbs < 2 ^ n := by
  rcases Nat.lt_or_ge x.natAbs 1 with h1 | h1
  · have : x = 0 := by omega
    subst this
    simp only [Int.zero_ediv, Int.natAbs_zero]
    exact Nat.lt_of_le_of_lt (Nat.zero_le _) h
  · have : (x / (g : Int)).natAbs ≤ x.natAbs := Int.natAbs_ediv_le_natAbs x g
    omega
theorem mulW {x y : Int} (hx : x.natAbs < 2 ^ 4000) (hy : y.natAbs < 2 ^ 4000) : CMulW x y := wide_mul hx hy (by decide) (by decide) (by decide)
theorem ndiv_small {x g : Nat} (h : x < 2 ^ 4000) : ((x : Int) / (g : Int)).natAbs < 2 ^ 4000 := by
  have : ((x : Int) / (g : Int)) = ((x / g : Nat) : Int) := by simp
  rw [this, Int.natAbs_natCast]
  exact Nat.lt_of_le_of_lt (Nat.div_le_self _ _) h
theorem ok_plus (T : Txt K mg D) : FnOk P w K mg base CX0 2 D.a_plus D.d_plus P_plus (spTwo K Vagraa.add) := by
  have G_common_divisor := ok_common_divisor (P := P) (w := w) (base := base) T
  refine T.F_plus.ok sc_plus (fun vs H Q E h => by first | (obtain ⟨rfl, _⟩ := h; rfl) | (obtain ⟨_, rfl, _⟩ := h; rfl) | (obtain ⟨_, _, rfl, _⟩ := h; rfl) | (obtain ⟨_, _, _, rfl, _⟩ := h; rfl) | (obtain ⟨_, _, _, _, rfl, _⟩ := h; rfl) | (obtain ⟨_, _, _, _, _, rfl, _⟩ := h; rfl) | (obtain ⟨_, _, _, _, _, _, rfl, _⟩ := h; rfl) | (obtain ⟨_, _, _, _, _, _, _, rfl, _⟩ := h; rfl) | (obtain ⟨_, _, _, _, _, _, _, _, rfl, _⟩ := h; rfl) | (obtain ⟨_, _, _, _, _, _, _, _, _, rfl, _⟩ := h; rfl) | (obtain ⟨_, _, _, _, _, _, _, _, _, _, rfl, _⟩ := h; rfl) | (obtain ⟨_, _, _, _, _, _, _, _, _, _, _, rfl, _⟩ := h; rfl) | (obtain ⟨_, _, _, _, _, _, _, _, _, _, _, _, rfl, _⟩ := h; rfl)) (fun cdv A outer s H vs Q E hr h => ?_)
  refine ⟨_, (pss_cons (ps_set (i := 2) sc_plus.nd rfl (.inl rfl) (pe_call G_common_divisor (hr.mono (by decide)) rfl T.g_common_divisor T.F_common_divisor.kp (b_common_divisor T) .nil pass0 (pa_cons (pe_ix ix_tup (pv 0) pe_int (fun _ _ => rfl)) (pa_cons (pe_ix ix_tup (pv 1) pe_int (fun _ _ => rfl)) pa_nil))))
    (pss_cons (ps_set (i := 3) sc_plus.nd rfl (.inl rfl) (pe_op op_fdivW (pe_ix ix_tup (pv 0) pe_int (fun _ _ => rfl)) (pv 2)))
    (pss_cons (ps_set (i := 4) sc_plus.nd rfl (.inl rfl) (pe_op op_add (pe_op op_mulW (pe_ix ix_tup (pv 0) pe_int (fun _ _ => rfl)) (pe_op op_fdivW (pe_ix ix_tup (pv 1) pe_int (fun _ _ => rfl)) (pv 2))) (pe_op op_mulW (pe_ix ix_tup (pv 1) pe_int (fun _ _ => rfl)) (pv 3))))
    (pss_cons (ps_set (i := 5) sc_plus.nd rfl (.inl rfl) (pe_call G_common_divisor (hr.mono (by decide)) rfl T.g_common_divisor T.F_common_divisor.kp (b_common_divisor T) .nil pass0 (pa_cons (pv 4) (pa_cons (pv 2) pa_nil))))
    (pss_one (ps_ret (pe_tup (pa_cons (pe_op op_fdivW (pv 4) (pv 5)) (pa_cons (pe_op op_mulW (pv 3) (pe_op op_fdivW (pe_ix ix_tup (pv 1) pe_int (fun _ _ => rfl)) (pv 5))) pa_nil))))))))), ?_⟩
  obtain ⟨p, q, a, b, rfl, hp, hq, la, lb, ⟨sa, ta⟩, ⟨sb, tb⟩, k⟩ := h
  obtain ⟨g, eg⟩ : ∃ g : Nat, g = Int.gcd (a.den : Int) (b.den : Int) := ⟨_, rfl⟩
  have hg : 0 < g := by rw [eg]; exact Nat.gcd_pos_of_pos_left _ la.pos
  have gs : g < 2 ^ 4000 := by rw [eg]; exact Nat.lt_of_le_of_lt (gcd_le_r _ lb.pos) tb
  have cg : ∀ x, CDivW x (g : Int) := fun x => wide_div (by omega) (b := 4000) (by rw [Int.natAbs_natCast]; exact gs) (by decide) (by decide)
  refine ⟨_, rfl, _, _, _, _, rfl, rfl, hp, rfl, _, rfl, _, _, _, _, rfl, rfl, hq, rfl, (a.den : Int), (b.den : Int), rfl, by have := lb.pos; omega, ?_⟩
  rw [← eg]
  refine ⟨_, rfl, _, _, _, _, rfl, rfl, hp, rfl, _, rfl, _, _, rfl, rfl, cg _, ?_⟩
  refine ⟨_, rfl, _, _, _, _, rfl, rfl, hp, rfl, _, rfl, _, _, _, _, rfl, rfl, hq, rfl, _, rfl, _, _, rfl, rfl, cg _, _, _, rfl, rfl, mulW sa (ndiv_small tb), _, rfl, _, _, _, _, rfl, rfl, hq, rfl, _, rfl, _, _, rfl, rfl, mulW sb (ndiv_small ta), _, _, rfl, rfl, ?_⟩
  obtain ⟨t, et⟩ : ∃ t : Int, t = a.num * ((b.den : Int) / (g : Int)) + b.num * ((a.den : Int) / (g : Int)) := ⟨_, rfl⟩
  refine ⟨_, rfl, _, rfl, t, (g : Int), by rw [et]; rfl, by omega, ?_⟩
  obtain ⟨r, er⟩ : ∃ r : Nat, r = Int.gcd t (g : Int) := ⟨_, rfl⟩
  have hr0 : 0 < r := by rw [er]; exact Nat.gcd_pos_of_pos_right _ (by simpa using hg)
  have rs : r < 2 ^ 4000 := by rw [er]; exact Nat.lt_of_le_of_lt (gcd_le_r _ hg) gs
  have cr : ∀ x, CDivW x (r : Int) := fun x => wide_div (by omega) (b := 4000) (by rw [Int.natAbs_natCast]; exact rs) (by decide) (by decide)
  rw [← er]
  refine ⟨_, rfl, _, rfl, t, (r : Int), by rw [et], rfl, cr _, _, rfl, _, rfl, _, _, _, _, rfl, rfl, hq, rfl, _, rfl, _, _, rfl, rfl, cr _, _, _, rfl, rfl, mulW (ndiv_small ta) (ndiv_small tb), (by show 2 ≤ sizeLine; decide), fun o ho => ?_⟩
  refine k.now ?_ ho
  rw [add_is la lb g (a.den / g) (b.den / g) r t eg rfl rfl (by rw [et]; simp) (by rw [er]; rfl)]
  unfold fracV
  simp
theorem ok_times (T : Txt K mg D) : FnOk P w K mg base CX0 2 D.a_times D.d_times P_times (spTwo K Vagraa.mul) := by
  have G_common_divisor := ok_common_divisor (P := P) (w := w) (base := base) T
  refine T.F_times.ok sc_times (fun vs H Q E h => by first | (obtain ⟨rfl, _⟩ := h; rfl) | (obtain ⟨_, rfl, _⟩ := h; rfl) | (obtain ⟨_, _, rfl, _⟩ := h; rfl) | (obtain ⟨_, _, _, rfl, _⟩ := h; rfl) | (obtain ⟨_, _, _, _, rfl, _⟩ := h; rfl) | (obtain ⟨_, _, _, _, _, rfl, _⟩ := h; rfl) | (obtain ⟨_, _, _, _, _, _, rfl, _⟩ := h; rfl) | (obtain ⟨_, _, _, _, _, _, _, rfl, _⟩ := h; rfl) | (obtain ⟨_, _, _, _, _, _, _, _, rfl, _⟩ := h; rfl) | (obtain ⟨_, _, _, _, _, _, _, _, _, rfl, _⟩ := h; rfl) | (obtain ⟨_, _, _, _, _, _, _, _, _, _, rfl, _⟩ := h; rfl) | (obtain ⟨_, _, _, _, _, _, _, _, _, _, _, rfl, _⟩ := h; rfl) | (obtain ⟨_, _, _, _, _, _, _, _, _, _, _, _, rfl, _⟩ := h; rfl)) (fun cdv A outer s H vs Q E hr h => ?_)
  refine ⟨_, (pss_cons (ps_set (i := 2) sc_times.nd rfl (.inl rfl) (pe_call G_common_divisor (hr.mono (by decide)) rfl T.g_common_divisor T.F_common_divisor.kp (b_common_divisor T) .nil pass0 (pa_cons (pe_ix ix_tup (pv 0) pe_int (fun _ _ => rfl)) (pa_cons (pe_ix ix_tup (pv 1) pe_int (fun _ _ => rfl)) pa_nil))))
    (pss_cons (ps_set (i := 3) sc_times.nd rfl (.inl rfl) (pe_call G_common_divisor (hr.mono (by decide)) rfl T.g_common_divisor T.F_common_divisor.kp (b_common_divisor T) .nil pass0 (pa_cons (pe_ix ix_tup (pv 1) pe_int (fun _ _ => rfl)) (pa_cons (pe_ix ix_tup (pv 0) pe_int (fun _ _ => rfl)) pa_nil))))
    (pss_one (ps_ret (pe_tup (pa_cons (pe_op op_mulW (pe_op op_fdivW (pe_ix ix_tup (pv 0) pe_int (fun _ _ => rfl)) (pv 2)) (pe_op op_fdivW (pe_ix ix_tup (pv 1) pe_int (fun _ _ => rfl)) (pv 3))) (pa_cons (pe_op op_mulW (pe_op op_fdivW (pe_ix ix_tup (pv 0) pe_int (fun _ _ => rfl)) (pv 3)) (pe_op op_fdivW (pe_ix ix_tup (pv 1) pe_int (fun _ _ => rfl)) (pv 2))) pa_nil))))))), ?_⟩
  obtain ⟨p, q, a, b, rfl, hp, hq, la, lb, ⟨sa, ta⟩, ⟨sb, tb⟩, k⟩ := h
  obtain ⟨f, ef⟩ : ∃ f : Nat, f = Int.gcd a.num (b.den : Int) := ⟨_, rfl⟩
  obtain ⟨s', es⟩ : ∃ s : Nat, s = Int.gcd b.num (a.den : Int) := ⟨_, rfl⟩
  have hf : 0 < f := by rw [ef]; exact Nat.gcd_pos_of_pos_right _ lb.pos
  have hs : 0 < s' := by rw [es]; exact Nat.gcd_pos_of_pos_right _ la.pos
  have cf : ∀ x, CDivW x (f : Int) := fun x => by rw [ef]; exact cdiv_gcd _ _ lb.pos tb (by decide) (by decide)
  have cs : ∀ x, CDivW x (s' : Int) := fun x => by rw [es]; exact cdiv_gcd _ _ la.pos ta (by decide) (by decide)
  refine ⟨_, rfl, _, _, _, _, rfl, rfl, hp, rfl, _, rfl, _, _, _, _, rfl, rfl, hq, rfl, a.num, (b.den : Int), rfl, by have := lb.pos; omega, ?_⟩
  rw [← ef]
  refine ⟨_, rfl, _, _, _, _, rfl, rfl, hq, rfl, _, rfl, _, _, _, _, rfl, rfl, hp, rfl, b.num, (a.den : Int), rfl, by have := la.pos; omega, ?_⟩
  rw [← es]
  refine ⟨_, rfl, _, _, _, _, rfl, rfl, hp, rfl, _, rfl, _, _, rfl, rfl, cf _, _, rfl, _, _, _, _, rfl, rfl, hq, rfl, _, rfl, _, _, rfl, rfl, cs _, _, _, rfl, rfl, mulW (div_small sa hf) (div_small sb hs), ?_⟩
  refine ⟨_, rfl, _, _, _, _, rfl, rfl, hp, rfl, _, rfl, _, _, rfl, rfl, cs _, _, rfl, _, _, _, _, rfl, rfl, hq, rfl, _, rfl, _, _, rfl, rfl, cf _, _, _, rfl, rfl, mulW (ndiv_small ta) (ndiv_small tb), (by show 2 ≤ sizeLine; decide), fun o ho => ?_⟩
  refine k.now ?_ ho
  rw [mul_is la lb f s' ef es]
  unfold fracV
  simp
theorem ok_minus (T : Txt K mg D) : FnOk P w K mg base CX0 3 D.a_minus D.d_minus P_minus (spTwo K Vagraa.sub) := by
  have G_plus := ok_plus (P := P) (w := w) (base := base) T
  have G_opposite := ok_opposite (P := P) (w := w) (base := base) T
  refine T.F_minus.ok sc_minus (fun vs H Q E h => by first | (obtain ⟨rfl, _⟩ := h; rfl) | (obtain ⟨_, rfl, _⟩ := h; rfl) | (obtain ⟨_, _, rfl, _⟩ := h; rfl) | (obtain ⟨_, _, _, rfl, _⟩ := h; rfl) | (obtain ⟨_, _, _, _, rfl, _⟩ := h; rfl) | (obtain ⟨_, _, _, _, _, rfl, _⟩ := h; rfl) | (obtain ⟨_, _, _, _, _, _, rfl, _⟩ := h; rfl) | (obtain ⟨_, _, _, _, _, _, _, rfl, _⟩ := h; rfl) | (obtain ⟨_, _, _, _, _, _, _, _, rfl, _⟩ := h; rfl) | (obtain ⟨_, _, _, _, _, _, _, _, _, rfl, _⟩ := h; rfl) | (obtain ⟨_, _, _, _, _, _, _, _, _, _, rfl, _⟩ := h; rfl) | (obtain ⟨_, _, _, _, _, _, _, _, _, _, _, rfl, _⟩ := h; rfl) | (obtain ⟨_, _, _, _, _, _, _, _, _, _, _, _, rfl, _⟩ := h; rfl)) (fun cdv A outer s H vs Q E hr h => ?_)
  refine ⟨_, (pss_one (ps_ret (pe_call G_plus (hr.mono (by decide)) rfl T.g_plus T.F_plus.kp (b_plus T) .nil pass0 (pa_cons (pv 0) (pa_cons (pe_call G_opposite (hr.mono (by decide)) rfl T.g_opposite T.F_opposite.kp (b_opposite T) .nil pass0 (pa_cons (pv 1) pa_nil)) pa_nil))))), ?_⟩
  obtain ⟨p, q, a, b, rfl, hp, hq, la, lb, sa, sb, k⟩ := h
  refine ⟨_, rfl, _, rfl, q, b, rfl, hq, fun H1 o e1 ho h1 => ?_⟩
  refine ⟨p, o, a, Vagraa.neg b, rfl, (sqT_same e1 hp), SqT.of h1, la, neg_low lb, sa, ⟨by simpa [Vagraa.neg] using sb.1, sb.2⟩, fun H2 o2 e2 ho2 h2 => ?_⟩
  exact k H2 o2 (e1.trans e2) (e1.free ho2) h2
def spOver (K : PySem.W.Frag) : Sp := fun vs H Q _ => ∃ (p q : Addr) (a b : Frac), vs = [.ref p, .ref q] ∧ SqT K H p (fracV a) ∧ SqT K H q (fracV b) ∧ Low a ∧ Low b ∧ Small a ∧ Small b ∧ b.num ≠ 0 ∧ GiveT H Q (fracV (Vagraa.div a b))
theorem ok_over (T : Txt K mg D) : FnOk P w K mg base CX0 3 D.a_over D.d_over P_over (spOver K) := by
  have G_times := ok_times (P := P) (w := w) (base := base) T
  refine T.F_over.ok sc_over (fun vs H Q E h => by first | (obtain ⟨rfl, _⟩ := h; rfl) | (obtain ⟨_, rfl, _⟩ := h; rfl) | (obtain ⟨_, _, rfl, _⟩ := h; rfl) | (obtain ⟨_, _, _, rfl, _⟩ := h; rfl) | (obtain ⟨_, _, _, _, rfl, _⟩ := h; rfl) | (obtain ⟨_, _, _, _, _, rfl, _⟩ := h; rfl) | (obtain ⟨_, _, _, _, _, _, rfl, _⟩ := h; rfl) | (obtain ⟨_, _, _, _, _, _, _, rfl, _⟩ := h; rfl) | (obtain ⟨_, _, _, _, _, _, _, _, rfl, _⟩ := h; rfl) | (obtain ⟨_, _, _, _, _, _, _, _, _, rfl, _⟩ := h; rfl) | (obtain ⟨_, _, _, _, _, _, _, _, _, _, rfl, _⟩ := h; rfl) | (obtain ⟨_, _, _, _, _, _, _, _, _, _, _, rfl, _⟩ := h; rfl) | (obtain ⟨_, _, _, _, _, _, _, _, _, _, _, _, rfl, _⟩ := h; rfl)) (fun cdv A outer s H vs Q E hr h => ?_)
  refine ⟨_, (pss_cons (ps_if (pt_cmpR op_lt (pe_ix ix_tup (pv 1) pe_int (fun _ _ => rfl)) pe_int (nomark _)) (pss_one (ps_ret (pe_call G_times (hr.mono (by decide)) rfl T.g_times T.F_times.kp (b_times T) .nil pass0 (pa_cons (pv 0) (pa_cons (pe_tup (pa_cons (pe_un un_neg (pe_ix ix_tup (pv 1) pe_int (fun _ _ => rfl))) (pa_cons (pe_un un_neg (pe_ix ix_tup (pv 1) pe_int (fun _ _ => rfl))) pa_nil))) pa_nil))))) pss_nil)
    (pss_one (ps_ret (pe_call G_times (hr.mono (by decide)) rfl T.g_times T.F_times.kp (b_times T) .nil pass0 (pa_cons (pv 0) (pa_cons (pe_tup (pa_cons (pe_ix ix_tup (pv 1) pe_int (fun _ _ => rfl)) (pa_cons (pe_ix ix_tup (pv 1) pe_int (fun _ _ => rfl)) pa_nil))) pa_nil)))))), ?_⟩
  obtain ⟨p, q, a, b, rfl, hp, hq, la, lb, sa, sb, hz, k⟩ := h
  have li := inv_low lb hz
  refine ⟨_, rfl, _, _, _, _, rfl, rfl, hq, rfl, _, _, rfl, rfl, _, rfl, ?_⟩
  by_cases c : b.num < 0
  · have ei : Vagraa.inv b = ⟨-(b.den : Int), b.num.natAbs⟩ := by unfold Vagraa.inv; rw [if_pos c]
    have en : ((b.num.natAbs : Nat) : Int) = -b.num := by omega
    refine ifT (decide_eq_true c) ?_
    refine ⟨_, rfl, _, rfl, _, _, _, _, rfl, rfl, hq, rfl, _, rfl, _, rfl, _, _, _, _, rfl, rfl, hq, rfl, _, rfl, (by show 2 ≤ sizeLine; decide), fun o ho => ?_⟩
    refine ⟨p, o, a, Vagraa.inv b, rfl, (sqT_same (same_upd ho) hp), SqT.of ?_, la, li, sa, ?_, fun H2 o2 e2 ho2 h2 => ?_⟩
    · rw [upd_same, ei, fracV]
      simp only [en]
    · rw [ei]
      exact ⟨by simpa using sb.2, sb.1⟩
    · exact k H2 o2 ((same_upd ho).trans e2) ((same_upd ho).free ho2) h2
  · have ei : Vagraa.inv b = ⟨b.den, b.num.natAbs⟩ := by unfold Vagraa.inv; rw [if_neg c, if_neg hz]
    have en : ((b.num.natAbs : Nat) : Int) = b.num := by omega
    refine ifF (decide_eq_false c) ?_
    refine ⟨_, rfl, _, rfl, _, _, _, _, rfl, rfl, hq, rfl, _, rfl, _, _, _, _, rfl, rfl, hq, rfl, (by show 2 ≤ sizeLine; decide), fun o ho => ?_⟩
    refine ⟨p, o, a, Vagraa.inv b, rfl, (sqT_same (same_upd ho) hp), SqT.of ?_, la, li, sa, ?_, fun H2 o2 e2 ho2 h2 => ?_⟩
    · rw [upd_same, ei, fracV]
      simp only [en]
    · rw [ei]
      exact ⟨by simpa using sb.2, sb.1⟩
    · exact k H2 o2 ((same_upd ho).trans e2) ((same_upd ho).free ho2) h2
end Lc
set_option Elab.async false
set_option linter.all false
set_option maxRecDepth 100000
set_option maxHeartbeats 4000000
namespace Lc
open PySem PySem.Spec PyProof.Rows L2
open Vagraa (Frac frac)
open VagraLine (Line)
open Vagrai (Prog Work)
variable {P : Program} {w : World} {K : PySem.W.Frag} {mg : Str → Option Value} {base : Heap} {D : Ad}
def spProgInit (C : Addr) : Sp := fun vs H Q _ => ∃ (x dx la oa : Addr) (n : Nat), vs = [.ref x, .int (n : Int), .ref la, .ref oa] ∧ H x = some (.ins C dx []) ∧
  Q .non (upd H x (.ins C dx (progF n la oa)))
theorem ok_Program_init (T : Txt K mg D) : FnOk P w K mg base CX0 1 D.a_Program_init D.d_Program_init P_Program_init (spProgInit D.c_Program) := by
  refine T.F_Program_init.ok sc_Program_init (fun vs H Q E h => by first | (obtain ⟨rfl, _⟩ := h; rfl) | (obtain ⟨_, rfl, _⟩ := h; rfl) | (obtain ⟨_, _, rfl, _⟩ := h; rfl) | (obtain ⟨_, _, _, rfl, _⟩ := h; rfl) | (obtain ⟨_, _, _, _, rfl, _⟩ := h; rfl) | (obtain ⟨_, _, _, _, _, rfl, _⟩ := h; rfl) | (obtain ⟨_, _, _, _, _, _, rfl, _⟩ := h; rfl) | (obtain ⟨_, _, _, _, _, _, _, rfl, _⟩ := h; rfl) | (obtain ⟨_, _, _, _, _, _, _, _, rfl, _⟩ := h; rfl) | (obtain ⟨_, _, _, _, _, _, _, _, _, rfl, _⟩ := h; rfl) | (obtain ⟨_, _, _, _, _, _, _, _, _, _, rfl, _⟩ := h; rfl) | (obtain ⟨_, _, _, _, _, _, _, _, _, _, _, rfl, _⟩ := h; rfl) | (obtain ⟨_, _, _, _, _, _, _, _, _, _, _, _, rfl, _⟩ := h; rfl)) (fun cdv A outer s H vs Q E hr h => ?_)
  refine ⟨_, (pss_cons (ps_fld (pv 0) (pv 1) rfl)
    (pss_cons (ps_fld (pv 0) (pv 2) rfl)
    (pss_one (ps_fld (pv 0) (pv 3) rfl)))), ?_⟩
  obtain ⟨x, dx, la, oa, n, rfl, hx, k⟩ := h
  refine ⟨_, rfl, _, rfl, x, D.c_Program, dx, [], rfl, hx, T.cl_Program, T.n_Program_inputs, (by show 0 < 1000; decide), ?_⟩
  refine ⟨_, rfl, _, rfl, x, D.c_Program, dx, _, rfl, upd_same, T.cl_Program, T.n_Program_lines, (by show 1 < 1000; decide), ?_⟩
  refine ⟨_, rfl, _, rfl, x, D.c_Program, dx, _, rfl, upd_same, T.cl_Program, T.n_Program_outs, (by show 2 < 1000; decide), ?_⟩
  show Q .non _
  rw [upd_upd, upd_upd]
  exact k
def spDraftInit (D : Ad) : Sp := fun vs H Q _ => ∃ (C x dx pa : Addr) (p : Prog), vs = [.ref x, .ref pa] ∧ Cls K C ∧ NoAttr K C "lines" ∧ H x = some (.ins C dx []) ∧ ProgAt D H pa p ∧
  ∀ (H' : Hp) (la : Addr), But H H' x → H la = none → H' x = some (.ins C dx [("lines", .ref la)]) → LinesAt H' la p.code → Q .non H'
theorem ok_Draft_init (T : Txt K mg D) : FnOk P w K mg base CX0 1 D.a_Draft_init D.d_Draft_init P_Draft_init (spDraftInit (K := K) D) := by
  refine T.F_Draft_init.ok sc_Draft_init (fun vs H Q E h => by first | (obtain ⟨rfl, _⟩ := h; rfl) | (obtain ⟨_, rfl, _⟩ := h; rfl) | (obtain ⟨_, _, rfl, _⟩ := h; rfl) | (obtain ⟨_, _, _, rfl, _⟩ := h; rfl) | (obtain ⟨_, _, _, _, rfl, _⟩ := h; rfl) | (obtain ⟨_, _, _, _, _, rfl, _⟩ := h; rfl) | (obtain ⟨_, _, _, _, _, _, rfl, _⟩ := h; rfl) | (obtain ⟨_, _, _, _, _, _, _, rfl, _⟩ := h; rfl) | (obtain ⟨_, _, _, _, _, _, _, _, rfl, _⟩ := h; rfl) | (obtain ⟨_, _, _, _, _, _, _, _, _, rfl, _⟩ := h; rfl) | (obtain ⟨_, _, _, _, _, _, _, _, _, _, rfl, _⟩ := h; rfl) | (obtain ⟨_, _, _, _, _, _, _, _, _, _, _, rfl, _⟩ := h; rfl) | (obtain ⟨_, _, _, _, _, _, _, _, _, _, _, _, rfl, _⟩ := h; rfl)) (fun cdv A outer s H vs Q E hr h => ?_)
  refine ⟨_, (pss_one (ps_fld (pv 0) (pe_callTy call_list_of (by rfl) T.f_list (by decide +kernel) (pa_cons (pe_fld (pv 1) rfl) pa_nil)) rfl)), ?_⟩
  obtain ⟨C, x, dx, pa, p, rfl, cC, nC, hx, ⟨dp, pl, po, ps, h1, h2, h3, h4⟩, k⟩ := h
  refine ⟨_, rfl, pa, D.c_Program, dp, _, _, rfl, h1, T.cl_Program, T.n_Program_lines, lk_lines _ _ _, pl, _, rfl, .inl (SqL.of h2), fun la hla => ?_⟩
  have s1 := same_upd (o := .lst (ps.map V.ref)) hla
  refine ⟨_, rfl, x, C, dx, [], rfl, s1 _ _ hx, cC, nC, (by show 0 < 1000; decide), ?_⟩
  have nx : la ≠ x := (ne_of_none hx hla).symm
  refine k _ la (fun b o z y => by rw [upd_ne y]; exact s1 _ _ z) hla upd_same ⟨ps, by rw [upd_ne nx, upd_same], h3.keep fun q xs z => ?_⟩
  rw [upd_ne (ne_of z hx nofun)]
  exact s1 _ _ z
/-- a draft of any class: its lines at la -/
def spPut (K : PySem.W.Frag) : Sp := fun vs H Q _ => ∃ (d t C dx la : Addr) (fs : List (Str × V)) (c : List Line) (l : Line), vs = [.ref d, .ref t] ∧ Cls K C ∧ NoAttr K C "lines" ∧ H d = some (.ins C dx fs) ∧ fs.lookup ("lines" : Str) = some (.ref la) ∧
  LinesAt H la c ∧ H t = some (.tup (lineV l)) ∧ c.length < sizeLine ∧ ∀ H' : Hp, But H H' la → LinesAt H' la (c ++ [l]) → Q (.int (c.length : Int)) H'
theorem ok_Draft_put (T : Txt K mg D) : FnOk P w K mg base CX0 1 D.a_Draft_put D.d_Draft_put P_Draft_put (spPut K) := by
  refine T.F_Draft_put.ok sc_Draft_put (fun vs H Q E h => by first | (obtain ⟨rfl, _⟩ := h; rfl) | (obtain ⟨_, rfl, _⟩ := h; rfl) | (obtain ⟨_, _, rfl, _⟩ := h; rfl) | (obtain ⟨_, _, _, rfl, _⟩ := h; rfl) | (obtain ⟨_, _, _, _, rfl, _⟩ := h; rfl) | (obtain ⟨_, _, _, _, _, rfl, _⟩ := h; rfl) | (obtain ⟨_, _, _, _, _, _, rfl, _⟩ := h; rfl) | (obtain ⟨_, _, _, _, _, _, _, rfl, _⟩ := h; rfl) | (obtain ⟨_, _, _, _, _, _, _, _, rfl, _⟩ := h; rfl) | (obtain ⟨_, _, _, _, _, _, _, _, _, rfl, _⟩ := h; rfl) | (obtain ⟨_, _, _, _, _, _, _, _, _, _, rfl, _⟩ := h; rfl) | (obtain ⟨_, _, _, _, _, _, _, _, _, _, _, rfl, _⟩ := h; rfl) | (obtain ⟨_, _, _, _, _, _, _, _, _, _, _, _, rfl, _⟩ := h; rfl)) (fun cdv A outer s H vs Q E hr h => ?_)
  refine ⟨_, (pss_cons (ps_expr (pe_bm PySem.F.plainAttrs_list PySem.F.slot_list_append PySem.F.type_list_append mt_append (pe_fld (pv 0) rfl) (pa_cons (pv 1) pa_nil)))
    (pss_one (ps_ret (pe_op op_sub (pe_callB call_len_seq (by rfl) T.f_len PySem.boot_len (pa_cons (pe_fld (pv 0) rfl) pa_nil)) pe_int)))), ?_⟩
  obtain ⟨d, t, C, dx, la, fs, c, l, rfl, cC, nC, hd, hf, ⟨ps, h2, h3⟩, ht, hz, k⟩ := h
  have hl := h3.len
  refine ⟨_, rfl, d, C, dx, fs, _, rfl, hd, cC, nC, hf, .inl ⟨rfl, _, SqL.of h2⟩, _, rfl, la, _, _, rfl, rfl, h2, (by rw [List.length_map]; omega), ?_⟩
  have nd : d ≠ la := ne_of hd h2 nofun
  refine ⟨_, rfl, d, C, dx, fs, _, rfl, (upd_ne nd).trans hd, cC, nC, hf, la, _, rfl, .inl (SqL.of upd_same), _, _, rfl, rfl, ?_⟩
  have e : ((ps.map V.ref ++ [V.ref t]).length : Int) - 1 = (c.length : Int) := by simp [hl]
  show Q (.int (((ps.map V.ref ++ [V.ref t]).length : Int) - 1)) _
  rw [e]
  have bt : But H (upd H la (.lst (ps.map V.ref ++ [V.ref t]))) la := fun b o z y => (upd_ne y).trans z
  refine k _ bt ⟨ps ++ [t], by rw [upd_same]; simp, (h3.keep fun p xs z => bt.tup h2 z).snoc (bt.tup h2 ht)⟩
def spIsOp : Sp := fun vs H Q _ => ∃ (p : Addr) (l : Line), vs = [.ref p] ∧ H p = some (.tup (lineV l)) ∧ Q (.bl l.isOp) H
theorem ok_is_operation (T : Txt K mg D) : FnOk P w K mg base CX0 1 D.a_is_operation D.d_is_operation P_is_operation (spIsOp) := by
  obtain ⟨t_CONSTANT, v_CONSTANT⟩ := T.v_CONSTANT
  obtain ⟨t_INPUT, v_INPUT⟩ := T.v_INPUT
  refine T.F_is_operation.ok sc_is_operation (fun vs H Q E h => by first | (obtain ⟨rfl, _⟩ := h; rfl) | (obtain ⟨_, rfl, _⟩ := h; rfl) | (obtain ⟨_, _, rfl, _⟩ := h; rfl) | (obtain ⟨_, _, _, rfl, _⟩ := h; rfl) | (obtain ⟨_, _, _, _, rfl, _⟩ := h; rfl) | (obtain ⟨_, _, _, _, _, rfl, _⟩ := h; rfl) | (obtain ⟨_, _, _, _, _, _, rfl, _⟩ := h; rfl) | (obtain ⟨_, _, _, _, _, _, _, rfl, _⟩ := h; rfl) | (obtain ⟨_, _, _, _, _, _, _, _, rfl, _⟩ := h; rfl) | (obtain ⟨_, _, _, _, _, _, _, _, _, rfl, _⟩ := h; rfl) | (obtain ⟨_, _, _, _, _, _, _, _, _, _, rfl, _⟩ := h; rfl) | (obtain ⟨_, _, _, _, _, _, _, _, _, _, _, rfl, _⟩ := h; rfl) | (obtain ⟨_, _, _, _, _, _, _, _, _, _, _, _, rfl, _⟩ := h; rfl)) (fun cdv A outer s H vs Q E hr h => ?_)
  refine ⟨_, (pss_one (ps_ret (pe_and (pe_cmpR op_ne (pe_ix ix_tup (pv 0) pe_int (fun _ _ => rfl)) (pe_glob (v := .int 0) rfl v_INPUT ⟨_, rfl⟩) (nomark _)) (pe_one (pe_cmpR op_ne (pe_ix ix_tup (pv 0) pe_int (fun _ _ => rfl)) (pe_glob (v := .int 1) rfl v_CONSTANT ⟨_, rfl⟩) (nomark _)))))), ?_⟩
  obtain ⟨p, l, rfl, hp, k⟩ := h
  cases l with
  | input a => exact ⟨_, rfl, _, _, _, _, rfl, rfl, SqT.of hp, rfl, rfl, _, rfl, ifF rfl k⟩
  | num a => exact ⟨_, rfl, _, _, _, _, rfl, rfl, SqT.of hp, rfl, rfl, _, rfl, ifT rfl ⟨_, rfl, _, _, _, _, rfl, rfl, SqT.of hp, rfl, rfl, k⟩⟩
  | _ => exact ⟨_, rfl, _, _, _, _, rfl, rfl, SqT.of hp, rfl, rfl, _, rfl, ifT rfl ⟨_, rfl, _, _, _, _, rfl, rfl, SqT.of hp, rfl, rfl, k⟩⟩
/-- the kind of a line -/
def kindOf : Line → Int
  | .input _ => 0
  | .num _ => 1
  | .add _ _ => 2
  | .sub _ _ => 3
  | .mul _ _ => 4
  | .div _ _ => 5
  | .neg _ => 6
theorem lineV_kind (l : Line) : (lineV l)[0]? = some (.int (kindOf l)) := by cases l <;> rfl
theorem uses_nil {l : Line} (h : kindOf l = 0 ∨ kindOf l = 1) : l.uses = [] := by cases l <;> simp [kindOf] at h <;> rfl
theorem lineV_uses {l : Line} (h : ¬ (kindOf l = 0 ∨ kindOf l = 1)) : lineV l = .int (kindOf l) :: l.uses.map natV := by cases l <;> simp [kindOf] at h <;> rfl
def spMadeOf (K : PySem.W.Frag) : Sp := fun vs H Q _ => ∃ (p : Addr) (l : Line), vs = [.ref p] ∧ H p = some (.tup (lineV l)) ∧ GiveT H Q (l.uses.map natV)
theorem noop_uses {l : Line} (h : l.isOp = false) : l.uses = [] := by cases l <;> first | rfl | cases h
theorem op_lineV {l : Line} (h : l.isOp = true) : lineV l = .int (kindOf l) :: l.uses.map natV := by cases l <;> first | rfl | cases h
theorem ok_made_of (T : Txt K mg D) : FnOk P w K mg base CX0 2 D.a_made_of D.d_made_of P_made_of (spMadeOf K) := by
  have G_is_operation := ok_is_operation (P := P) (w := w) (base := base) T
  refine T.F_made_of.ok sc_made_of (fun vs H Q E h => by first | (obtain ⟨rfl, _⟩ := h; rfl) | (obtain ⟨_, rfl, _⟩ := h; rfl) | (obtain ⟨_, _, rfl, _⟩ := h; rfl) | (obtain ⟨_, _, _, rfl, _⟩ := h; rfl) | (obtain ⟨_, _, _, _, rfl, _⟩ := h; rfl) | (obtain ⟨_, _, _, _, _, rfl, _⟩ := h; rfl) | (obtain ⟨_, _, _, _, _, _, rfl, _⟩ := h; rfl) | (obtain ⟨_, _, _, _, _, _, _, rfl, _⟩ := h; rfl) | (obtain ⟨_, _, _, _, _, _, _, _, rfl, _⟩ := h; rfl) | (obtain ⟨_, _, _, _, _, _, _, _, _, rfl, _⟩ := h; rfl) | (obtain ⟨_, _, _, _, _, _, _, _, _, _, rfl, _⟩ := h; rfl) | (obtain ⟨_, _, _, _, _, _, _, _, _, _, _, rfl, _⟩ := h; rfl) | (obtain ⟨_, _, _, _, _, _, _, _, _, _, _, _, rfl, _⟩ := h; rfl)) (fun cdv A outer s H vs Q E hr h => ?_)
  refine ⟨_, (pss_one (ps_ret (pe_ifExp (pt_val (pe_call G_is_operation (hr.mono (by decide)) rfl T.g_is_operation T.F_is_operation.kp (b_is_operation T) .nil pass0 (pa_cons (pv 0) pa_nil))) (pe_slice sl_tupA (pv 0) (po_some pe_int) po_none) (pe_tup pa_nil)))), ?_⟩
  obtain ⟨p, l, rfl, hp, k⟩ := h
  refine ⟨_, rfl, p, l, rfl, hp, _, rfl, ?_⟩
  cases c : l.isOp with
  | false => exact ifF rfl ⟨(by show 0 ≤ sizeLine; decide), fun q hq => k.now (by rw [noop_uses c]; rfl) hq⟩
  | true =>
    refine ifT rfl ?_
    have e := op_lineV c
    refine ⟨_, rfl, 1, rfl, p, lineV l, rfl, SqT.of hp, fun hw => ?_, fun _ q hq => ?_⟩
    · exfalso
      have z := hw.1
      cases l <;> first | exact absurd z (by show ¬ (HT.sIx 3 0 (some 1) = 0); decide) | exact absurd z (by show ¬ (HT.sIx 2 0 (some 1) = 0); decide) | cases c
    · refine k.now ?_ hq
      rw [e]
      cases l <;> first | rfl | cases c
theorem told_snoc (c : List Line) (l : Line) : VagraLine.told (c ++ [l]) = VagraLine.told c ++ VagraLine.Line.told l := by simp [VagraLine.told]
theorem told_len (l : Line) : (VagraLine.Line.told l).length ≤ 3 := by cases l <;> simp [VagraLine.Line.told]
theorem told_all_len (c : List Line) : (VagraLine.told c).length ≤ 3 * c.length := by
  induction c with
  | nil => simp [VagraLine.told]
  | cons l r ih =>
    have := told_len l
    simp only [VagraLine.told, List.flatMap_cons, List.length_append, List.length_cons] at ih ⊢
    omega
theorem take_snoc {α : Type} {l : List α} {i : Nat} {x : α} (h : l[i]? = some x) : l.take (i + 1) = l.take i ++ [x] := by
  rw [List.take_succ, h]
  rfl
def spTold (D : Ad) : Sp := fun vs H Q _ => ∃ (pa : Addr) (p : Prog), vs = [.ref pa] ∧ ProgAt D H pa p ∧ 4 * p.code.length + p.outs.length ≤ 1000000 ∧ GiveL H Q ((Vagrai.progTold p).map V.int)
theorem ok_told (T : Txt K mg D) : FnOk P w K mg base CX0 1 D.a_told D.d_told P_told (spTold D) := by
  refine T.F_told.ok sc_told (fun vs H Q E h => by first | (obtain ⟨rfl, _⟩ := h; rfl) | (obtain ⟨_, rfl, _⟩ := h; rfl) | (obtain ⟨_, _, rfl, _⟩ := h; rfl) | (obtain ⟨_, _, _, rfl, _⟩ := h; rfl) | (obtain ⟨_, _, _, _, rfl, _⟩ := h; rfl) | (obtain ⟨_, _, _, _, _, rfl, _⟩ := h; rfl) | (obtain ⟨_, _, _, _, _, _, rfl, _⟩ := h; rfl) | (obtain ⟨_, _, _, _, _, _, _, rfl, _⟩ := h; rfl) | (obtain ⟨_, _, _, _, _, _, _, _, rfl, _⟩ := h; rfl) | (obtain ⟨_, _, _, _, _, _, _, _, _, rfl, _⟩ := h; rfl) | (obtain ⟨_, _, _, _, _, _, _, _, _, _, rfl, _⟩ := h; rfl) | (obtain ⟨_, _, _, _, _, _, _, _, _, _, _, rfl, _⟩ := h; rfl) | (obtain ⟨_, _, _, _, _, _, _, _, _, _, _, _, rfl, _⟩ := h; rfl)) (fun cdv A outer s H vs Q E hr h => ?_)
  refine ⟨_, (pss_cons (ps_set (i := 1) sc_told.nd rfl (.inl rfl) (pe_lst pa_nil))
    (pss_cons (ps_for PassesOwn.never rfl (pi_list (pe_fld (pv 0) rfl)) (pg_name (i := 2) sc_told.nd rfl (Or.inl rfl)) (pss_one (ps_expr (pe_bm PySem.F.plainAttrs_list PySem.F.slot_list_extend PySem.F.type_list_extend mt_extendT (pv 1) (pa_cons (pv 2) pa_nil)))))
    (pss_one (ps_ret (pe_op op_cat (pe_op op_cat (pe_op op_cat (pe_lst (pa_cons (pe_callB call_len_seq (by rfl) T.f_len PySem.boot_len (pa_cons (pv 1) pa_nil)) pa_nil)) (pv 1)) (pe_lst (pa_cons (pe_callB call_len_seq (by rfl) T.f_len PySem.boot_len (pa_cons (pe_fld (pv 0) rfl) pa_nil)) pa_nil))) (pe_fld (pv 0) rfl)))))), ?_⟩
  obtain ⟨pa, p, rfl, ⟨dx, la, oa, ps, h1, h2, h3, h4⟩, hz, k⟩ := h
  refine ⟨(by show 0 ≤ sizeLine; decide), fun m hm => ?_⟩
  have s0 := same_upd (o := .lst []) hm
  refine ⟨_, rfl, pa, D.c_Program, dx, _, _, rfl, s0 _ _ h1, T.cl_Program, T.n_Program_lines, lk_lines _ _ _, la, rfl, ⟨_, SqL.of (s0 _ _ h2)⟩, for_list (K := K) (a := la) (xs := ps.map V.ref)
    (fun i σ H' => ∃ v : Option V, σ = [some (.ref pa), some (.ref m), v] ∧ Same H H' ∧ H' m = some (.lst ((VagraLine.told (p.code.take i)).map V.int)))
    ⟨none, rfl, s0, upd_same⟩ (fun i σ H' _ ⟨_, _, e, _⟩ => SqL.of (e _ _ h2)) ?_ ?_⟩
  · rintro i y σ H' hi ⟨v, rfl, e, hm'⟩
    rw [List.getElem?_map] at hi
    cases hp : ps[i]? with
    | none => rw [hp] at hi; cases hi
    | some q =>
      rw [hp] at hi
      obtain rfl : V.ref q = y := Option.some.inj hi
      obtain ⟨l, hl, hq⟩ := h3.get' hp
      have tl := told_all_len (p.code.take i)
      have t3 := told_len l
      have hc : (p.code.take i).length ≤ p.code.length := by simp; omega
      have hil : i < p.code.length := (List.getElem?_eq_some_iff.mp hl).1
      refine ⟨_, rfl, .inl ⟨rfl, _, SqL.of hm'⟩, _, rfl, m, q, _, lineV l, rfl, rfl, hm', SqT.of (e _ _ hq), ?_, ?_⟩
      · have : sizeLine = 16777216 := rfl
        simp only [List.length_map, lineV]
        omega
      · refine ⟨_, rfl, fun b o z => ?_, ?_⟩
        · rw [upd_ne (ne_of_none z hm)]; exact e b o z
        · rw [upd_same, take_snoc hl, told_snoc, List.map_append]; rfl
  · rintro σ H' ⟨v, rfl, e, hm'⟩
    rw [List.length_map, h3.len, List.take_length] at hm'
    have tl := told_all_len p.code
    have z0 : sizeLine = 16777216 := rfl
    have g1 : H' la ≠ none := by rw [e _ _ h2]; nofun
    refine ⟨_, rfl, m, _, rfl, .inl (SqL.of hm'), (by show 1 ≤ sizeLine; decide), fun q1 n1 => ?_⟩
    have s1 := same_upd (o := .lst [V.int (((VagraLine.told p.code).map V.int).length : Int)]) n1
    refine ⟨_, rfl, q1, m, _, _, rfl, rfl, upd_same, s1 _ _ hm', by simp; omega, fun q2 n2 => ?_⟩
    have s2 := s1.trans (same_upd (o := .lst ([V.int (((VagraLine.told p.code).map V.int).length : Int)] ++ (VagraLine.told p.code).map V.int)) n2)
    have e2 := e.trans s2
    refine ⟨_, rfl, pa, D.c_Program, dx, _, _, rfl, e2 _ _ h1, T.cl_Program, T.n_Program_outs, lk_outs _ _ _, oa, _, rfl, .inl (SqL.of (e2 _ _ h4)), (by show 1 ≤ sizeLine; decide), fun q3 n3 => ?_⟩
    have s3 := same_upd (o := .lst [V.int ((p.outs.map natV).length : Int)]) n3
    refine ⟨q2, q3, _, _, rfl, rfl, s3 _ _ upd_same, upd_same, by simp; omega, fun q4 n4 => ?_⟩
    have s4 := s3.trans (same_upd (o := .lst ([V.int (((VagraLine.told p.code).map V.int).length : Int)] ++ (VagraLine.told p.code).map V.int ++ [V.int ((p.outs.map natV).length : Int)])) n4)
    have e4 := e2.trans s4
    refine ⟨_, rfl, pa, D.c_Program, dx, _, _, rfl, e4 _ _ h1, T.cl_Program, T.n_Program_outs, lk_outs _ _ _, q4, oa, _, _, rfl, rfl, upd_same, e4 _ _ h4, by simp; omega, fun q5 n5 => ?_⟩
    refine (k.later e4).now ?_ n5
    simp [Vagrai.progTold, Vagrai.listed]
    exact fun x _ => rfl
end Lc
set_option Elab.async false
set_option linter.all false
set_option maxRecDepth 100000
set_option maxHeartbeats 4000000
namespace Lc
open PySem PySem.Spec PyProof.Rows L2
open Vagraa (Frac frac)
open VagraLine (Line)
open Vagrai (Prog Work)
variable {P : Program} {w : World} {K : PySem.W.Frag} {mg : Str → Option Value} {base : Heap} {D : Ad}
def wF (la ha : Addr) : List (Str × V) := [("lines", .ref la), ("holders", .ref ha)]
/-- a backward draft at d -/
structure WDraft (D : Ad) (H : Hp) (d dx la ha : Addr) (w : Work) : Prop where
  obj : H d = some (.ins D.c_WeightDraft dx (wF la ha))
  lines : LinesAt H la w.code
  bars : H ha = some (.lst (w.bars.map optV))
  ne : la ≠ ha
theorem WDraft.same {D : Ad} {H H' : Hp} {d dx la ha : Addr} {w : Work} (W : WDraft D H d dx la ha w) (e : Same H H') : WDraft D H' d dx la ha w := ⟨e _ _ W.obj, W.lines.same e, e _ _ W.bars, W.ne⟩
theorem WDraft.lst {D : Ad} {H : Hp} {d dx la ha : Addr} {w : Work} (W : WDraft D H d dx la ha w) : ∃ xs, H la = some (.lst xs) := by
  obtain ⟨ps, h, _⟩ := W.lines
  exact ⟨_, h⟩
theorem WDraft.put {D : Ad} {H H' : Hp} {d dx la ha : Addr} {w : Work} {l : Line} (W : WDraft D H d dx la ha w) (k : But H H' la) (h : LinesAt H' la (w.code ++ [l])) : WDraft D H' d dx la ha (w.put l).2 := by
  obtain ⟨xs, hl⟩ := W.lst
  exact ⟨k _ _ W.obj (ne_of W.obj hl nofun), h, k _ _ W.bars W.ne.symm, W.ne⟩
theorem WDraft.bar {D : Ad} {H : Hp} {d dx la ha : Addr} {w : Work} (W : WDraft D H d dx la ha w) (i : Nat) (b : Option Nat) : WDraft D (upd H ha (.lst ((w.bars.set i b).map optV))) d dx la ha { w with bars := w.bars.set i b } := by
  obtain ⟨ps, hl, hp⟩ := W.lines
  exact ⟨(upd_ne (ne_of W.obj W.bars nofun)).trans W.obj, ⟨ps, (upd_ne W.ne).trans hl, hp.keep fun q xs z => (upd_ne (ne_of z W.bars nofun)).trans z⟩, upd_same, W.ne⟩
def spWInit (D : Ad) : Sp := fun vs H Q _ => ∃ (x dx pa : Addr) (p : Prog), vs = [.ref x, .ref pa] ∧ H x = some (.ins D.c_WeightDraft dx []) ∧ ProgAt D H pa p ∧ p.code.length < sizeLine ∧
  ∀ (H' : Hp) (la ha : Addr), But H H' x → H la = none → H ha = none → WDraft D H' x dx la ha ⟨p.code, p.code.map fun _ => none⟩ → Q .non H'
theorem ok_WeightDraft_init (T : Txt K mg D) : FnOk P w K mg base CX0 2 D.a_WeightDraft_init D.d_WeightDraft_init P_WeightDraft_init (spWInit D) := by
  have G_Draft_init := ok_Draft_init (P := P) (w := w) (base := base) T
  refine T.F_WeightDraft_init.ok sc_WeightDraft_init (fun vs H Q E h => by first | (obtain ⟨rfl, _⟩ := h; rfl) | (obtain ⟨_, rfl, _⟩ := h; rfl) | (obtain ⟨_, _, rfl, _⟩ := h; rfl) | (obtain ⟨_, _, _, rfl, _⟩ := h; rfl) | (obtain ⟨_, _, _, _, rfl, _⟩ := h; rfl) | (obtain ⟨_, _, _, _, _, rfl, _⟩ := h; rfl) | (obtain ⟨_, _, _, _, _, _, rfl, _⟩ := h; rfl) | (obtain ⟨_, _, _, _, _, _, _, rfl, _⟩ := h; rfl) | (obtain ⟨_, _, _, _, _, _, _, _, rfl, _⟩ := h; rfl) | (obtain ⟨_, _, _, _, _, _, _, _, _, rfl, _⟩ := h; rfl) | (obtain ⟨_, _, _, _, _, _, _, _, _, _, rfl, _⟩ := h; rfl) | (obtain ⟨_, _, _, _, _, _, _, _, _, _, _, rfl, _⟩ := h; rfl) | (obtain ⟨_, _, _, _, _, _, _, _, _, _, _, _, rfl, _⟩ := h; rfl)) (fun cdv A outer s H vs Q E hr h => ?_)
  refine ⟨_, (pss_cons (ps_expr (pe_clsfn G_Draft_init (hr.mono (by decide)) rfl T.g_Draft T.cf_Draft_init T.F_Draft_init.kp (b_Draft_init T) .nil pass0 (pa_cons (pv 0) (pa_cons (pv 1) pa_nil))))
    (pss_one (ps_fld (pv 0) (pe_lc (own := [("line", 2)]) (g := gName 2) (tt := tYes) rfl sc_WeightDraft_init.nd (pi_list (pe_fld (pv 1) rfl)) (blkOk_by (own := [("line", 2)]) (N := N_WeightDraft_init) (sc := defScope s_WeightDraft_init) (by decide +kernel)) (fun _ _ _ _ _ => pg_name (i := 2) sc_WeightDraft_init.nd rfl (Or.inl rfl)) (fun _ _ _ _ _ => pts_nil) (fun _ _ _ _ _ => pe_non)) rfl))), ?_⟩
  obtain ⟨x, dx, pa, p, rfl, hx, hp, hz, k⟩ := h
  refine ⟨_, rfl, _, rfl, D.c_WeightDraft, x, dx, pa, p, rfl, T.cl_WeightDraft, T.n_WeightDraft_lines, hx, hp, fun H1 la b1 nla hx1 hl1 => ?_⟩
  obtain ⟨dp, pl, po, ps, hP⟩ := hp
  have nx : ∀ {q : Addr} {o : HO}, H q = some o → o ≠ .ins D.c_WeightDraft dx [] → q ≠ x := fun h d => ne_of h hx d
  have o1 := b1 _ _ hP.obj (nx hP.obj (by intro z; injection z with _ _ z; cases z))
  have l1 := b1 _ _ hP.lst (nx hP.lst nofun)
  refine ⟨_, rfl, pa, D.c_Program, dp, _, _, rfl, o1, T.cl_Program, T.n_Program_lines, lk_lines _ _ _, pl, rfl, ⟨_, SqL.of l1⟩, fun M hM => lc_list (K := K) (a := pl) (xs := ps.map V.ref)
    (fun i H' => (∀ b o, H1 b = some o → H' b = some o) ∧ H' M = some (.lst (List.replicate i .non))) ⟨same_upd hM, upd_same⟩ (fun i H' _ e => SqL.of (e.1 _ _ l1)) (fun i y H' hi e => ?_) (fun H' e => ?_)⟩
  · refine ⟨rfl, ?_⟩
    have hi' : i < (ps.map V.ref).length := (List.getElem?_eq_some_iff.mp hi).1
    rw [List.length_map, hP.lines.len] at hi'
    refine ⟨_, e.2, by simp; omega, fun b o z => ?_, ?_⟩
    · rw [upd_ne (ne_of_none z hM)]; exact e.1 _ _ z
    · rw [upd_same, List.replicate_succ']
  · have hx2 := e.1 _ _ hx1
    refine ⟨_, rfl, x, D.c_WeightDraft, dx, _, rfl, hx2, T.cl_WeightDraft, T.n_WeightDraft_holders, (by show 1 < 1000; decide), ?_⟩
    have nM : H M = none := by
      cases z : H M with
      | none => rfl
      | some o =>
        by_cases mx : M = x
        · rw [mx, hx1] at hM; cases hM
        · rw [b1 _ _ z mx] at hM; cases hM
    have xla : la ≠ x := fun z => by rw [z, hx] at nla; cases nla
    obtain ⟨qs, hq1, hq2⟩ := hl1
    have hM2 : M ≠ x := fun z => by rw [z, hx] at nM; cases nM
    refine k _ la M (fun b o z y => by rw [upd_ne y]; exact e.1 _ _ (b1 b o z y)) nla nM ⟨upd_same, ⟨qs, by rw [upd_ne xla]; exact e.1 _ _ hq1, hq2.keep fun q xs z => ?_⟩, ?_, fun z => ?_⟩
    · rw [upd_ne (ne_of z hx1 nofun)]; exact e.1 _ _ z
    · rw [upd_ne hM2, e.2]
      simp [hP.lines.len, optV, List.map_const']
    · rw [← z, hq1] at hM; cases hM
def spWeigh (D : Ad) : Sp := fun vs H Q _ => ∃ (d dx la ha : Addr) (w : Work) (i x : Nat), vs = [.ref d, .int (i : Int), .int (x : Int)] ∧ WDraft D H d dx la ha w ∧ i < w.bars.length ∧ w.code.length < sizeLine ∧
  ∀ H' : Hp, But2 H H' la ha → WDraft D H' d dx la ha (w.more i x) → Q .non H'
theorem bar_get {w : Work} {i : Nat} (h : i < w.bars.length) : (w.bars.map optV)[i]? = some (optV (w.bars.getD i none)) := by
  rw [List.getElem?_map, List.getD_eq_getElem?_getD, List.getElem?_eq_getElem h]
  rfl
theorem ixN_nat {n i : Nat} (h : i < n) : ixN n (i : Int) = some i := by
  unfold ixN
  rw [if_pos (by omega), if_pos (by omega)]
  simp
theorem ok_WeightDraft_weigh (T : Txt K mg D) : FnOk P w K mg base CX0 2 D.a_WeightDraft_weigh D.d_WeightDraft_weigh P_WeightDraft_weigh (spWeigh D) := by
  have G_Draft_put := ok_Draft_put (P := P) (w := w) (base := base) T
  obtain ⟨t_SUM, v_SUM⟩ := T.v_SUM
  refine T.F_WeightDraft_weigh.ok sc_WeightDraft_weigh (fun vs H Q E h => by first | (obtain ⟨rfl, _⟩ := h; rfl) | (obtain ⟨_, rfl, _⟩ := h; rfl) | (obtain ⟨_, _, rfl, _⟩ := h; rfl) | (obtain ⟨_, _, _, rfl, _⟩ := h; rfl) | (obtain ⟨_, _, _, _, rfl, _⟩ := h; rfl) | (obtain ⟨_, _, _, _, _, rfl, _⟩ := h; rfl) | (obtain ⟨_, _, _, _, _, _, rfl, _⟩ := h; rfl) | (obtain ⟨_, _, _, _, _, _, _, rfl, _⟩ := h; rfl) | (obtain ⟨_, _, _, _, _, _, _, _, rfl, _⟩ := h; rfl) | (obtain ⟨_, _, _, _, _, _, _, _, _, rfl, _⟩ := h; rfl) | (obtain ⟨_, _, _, _, _, _, _, _, _, _, rfl, _⟩ := h; rfl) | (obtain ⟨_, _, _, _, _, _, _, _, _, _, _, rfl, _⟩ := h; rfl) | (obtain ⟨_, _, _, _, _, _, _, _, _, _, _, _, rfl, _⟩ := h; rfl)) (fun cdv A outer s H vs Q E hr h => ?_)
  refine ⟨_, (pss_cons (ps_set (i := 3) sc_WeightDraft_weigh.nd rfl (.inl rfl) (pe_ix ix_list (pe_fld (pv 0) rfl) (pv 1) (fun _ _ => rfl)))
    (pss_one (ps_if (pt_cmpR op_isN (pv 3) pe_non (nomark _)) (pss_one (ps_asg (pv 2) (pg_sub (pe_fld (pv 0) rfl) (pv 1) set_list))) (pss_one (ps_asg (pe_meth (pv 0) T.cl_WeightDraft T.m_WeightDraft_put G_Draft_put (hr.mono (by decide)) (b_Draft_put T) .nil pass0 (pa_cons (pe_tup (pa_cons (pe_glob (v := .int 2) rfl v_SUM ⟨_, rfl⟩) (pa_cons (pv 3) (pa_cons (pv 2) pa_nil)))) pa_nil)) (pg_sub (pe_fld (pv 0) rfl) (pv 1) set_list)))))), ?_⟩
  obtain ⟨d, dx, la, ha, w, i, x, rfl, W, hi, hz, k⟩ := h
  refine ⟨_, rfl, d, _, dx, _, _, rfl, W.obj, T.cl_WeightDraft, T.n_WeightDraft_holders, rfl, _, rfl, ha, _, (i : Int), _, rfl, rfl, SqL.of W.bars, atI_nat (bar_get hi), ?_⟩
  refine ⟨_, rfl, rfl, _, rfl, ?_⟩
  cases e : w.bars.getD i none with
  | none =>
    refine ifT rfl ?_
    refine ⟨_, rfl, _, rfl, d, _, dx, _, _, rfl, W.obj, T.cl_WeightDraft, T.n_WeightDraft_holders, rfl, _, rfl, ha, _, (i : Int), i, rfl, rfl, W.bars, ixN_nat (by rw [List.length_map]; exact hi), ?_⟩
    have z : (w.bars.map optV).set i (V.int (x : Int)) = (w.bars.set i (some x)).map optV := by rw [List.map_set]; rfl
    rw [z]
    refine k _ (fun b o y _ n2 => by rw [upd_ne n2]; exact y) ?_
    rw [more_none e]
    exact W.bar i (some x)
  | some b =>
    refine ifF rfl ?_
    refine ⟨_, rfl, d, dx, _, rfl, W.obj, rfl, _, rfl, _, rfl, (by show 3 ≤ sizeLine; decide), fun t ht => ?_⟩
    have s1 := same_upd (o := .tup [V.int 2, V.int (b : Int), V.int (x : Int)]) ht
    have W1 := W.same s1
    refine ⟨d, t, D.c_WeightDraft, dx, la, _, w.code, .add b x, rfl, T.cl_WeightDraft, T.n_WeightDraft_lines, W1.obj, rfl, W1.lines, upd_same, hz, fun H2 b2 l2 => ?_⟩
    have W2 := W1.put b2 l2
    refine ⟨_, rfl, d, _, dx, _, _, rfl, W2.obj, T.cl_WeightDraft, T.n_WeightDraft_holders, rfl, _, rfl, ha, _, (i : Int), i, rfl, rfl, W2.bars, ixN_nat (by rw [List.length_map]; exact hi), ?_⟩
    have z : (w.bars.map optV).set i (V.int (w.code.length : Int)) = (w.bars.set i (some w.code.length)).map optV := by rw [List.map_set]; rfl
    show Q .non (upd H2 ha (.lst ((w.bars.map optV).set i (V.int (w.code.length : Int)))))
    rw [z]
    refine k _ (fun b o y n1 n2 => by rw [upd_ne n2]; exact b2 _ _ (s1 _ _ y) n1) ?_
    rw [more_some e]
    exact W2.bar i (some w.code.length)
/-- the program's lists are not the draft's -/
structure Apart (pl po la ha : Addr) : Prop where
  a : pl ≠ la
  b : pl ≠ ha
  c : po ≠ la
  d : po ≠ ha
theorem WDraft.prog {D : Ad} {H H' : Hp} {d dx la ha pa dp pl po : Addr} {ps : List Addr} {p : Prog} {w : Work} (W : WDraft D H d dx la ha w) (N : Apart pl po la ha) (k : But2 H H' la ha) (h : ProgL D H pa dp pl po ps p) : ProgL D H' pa dp pl po ps p := by
  obtain ⟨xs, hl⟩ := W.lst
  exact h.but2 hl W.bars N.a N.b N.c N.d k
theorem more_len (w : Work) (i x : Nat) : (w.more i x).bars.length = w.bars.length := by
  cases e : w.bars.getD i none with
  | none => rw [more_none e]; simp
  | some b => rw [more_some e]; simp
theorem more_code (w : Work) (i x : Nat) : w.code.length ≤ (w.more i x).code.length ∧ (w.more i x).code.length ≤ w.code.length + 1 := by
  cases e : w.bars.getD i none with
  | none => rw [more_none e]; exact ⟨Nat.le_refl _, Nat.le_succ _⟩
  | some b => rw [more_some e]; simp
theorem seeds_at (k : Nat) : ∀ (outs : List Nat) (n i : Nat) (w : Work), outs.length = n → ∀ o, outs[i]? = some o → Work.seeds (k + i) (outs.drop i) w = Work.seeds (k + (i + 1)) (outs.drop (i + 1)) ((w.put (.input (k + i))).2.more o w.code.length) := fun outs n i w _ o e => by
  obtain ⟨hi, e⟩ := List.getElem?_eq_some_iff.mp e
  rw [List.drop_eq_getElem_cons hi, e]
  rfl
def spWOuts (D : Ad) : Sp := fun vs H Q _ => ∃ (d pa dx la ha dp pl po : Addr) (ps : List Addr) (w : Work) (p : Prog), vs = [.ref d, .ref pa] ∧ WDraft D H d dx la ha w ∧ ProgL D H pa dp pl po ps p ∧ Apart pl po la ha ∧
  (∀ o ∈ p.outs, o < w.bars.length) ∧ w.code.length + 2 * p.outs.length + 2 ≤ 1000000 ∧ ∀ H' : Hp, But2 H H' la ha → WDraft D H' d dx la ha (Work.seeds p.inputs p.outs w) → Q .non H'
theorem ok_WeightDraft_weigh_outs (T : Txt K mg D) : FnOk P w K mg base CX0 3 D.a_WeightDraft_weigh_outs D.d_WeightDraft_weigh_outs P_WeightDraft_weigh_outs (spWOuts D) := by
  have G_WeightDraft_weigh := ok_WeightDraft_weigh (P := P) (w := w) (base := base) T
  have G_Draft_put := ok_Draft_put (P := P) (w := w) (base := base) T
  obtain ⟨t_INPUT, v_INPUT⟩ := T.v_INPUT
  refine T.F_WeightDraft_weigh_outs.ok sc_WeightDraft_weigh_outs (fun vs H Q E h => by first | (obtain ⟨rfl, _⟩ := h; rfl) | (obtain ⟨_, rfl, _⟩ := h; rfl) | (obtain ⟨_, _, rfl, _⟩ := h; rfl) | (obtain ⟨_, _, _, rfl, _⟩ := h; rfl) | (obtain ⟨_, _, _, _, rfl, _⟩ := h; rfl) | (obtain ⟨_, _, _, _, _, rfl, _⟩ := h; rfl) | (obtain ⟨_, _, _, _, _, _, rfl, _⟩ := h; rfl) | (obtain ⟨_, _, _, _, _, _, _, rfl, _⟩ := h; rfl) | (obtain ⟨_, _, _, _, _, _, _, _, rfl, _⟩ := h; rfl) | (obtain ⟨_, _, _, _, _, _, _, _, _, rfl, _⟩ := h; rfl) | (obtain ⟨_, _, _, _, _, _, _, _, _, _, rfl, _⟩ := h; rfl) | (obtain ⟨_, _, _, _, _, _, _, _, _, _, _, rfl, _⟩ := h; rfl) | (obtain ⟨_, _, _, _, _, _, _, _, _, _, _, _, rfl, _⟩ := h; rfl)) (fun cdv A outer s H vs Q E hr h => ?_)
  refine ⟨_, (pss_one (ps_for PassesOwn.never rfl (pi_enum (by rfl) T.f_enumerate (pa_cons (pe_fld (pv 1) rfl) pa_nil)) (pg_tup rfl (pgs_cons (pg_name (i := 2) sc_WeightDraft_weigh_outs.nd rfl (Or.inl rfl)) (pgs_cons (pg_name (i := 3) sc_WeightDraft_weigh_outs.nd rfl (Or.inl rfl)) pgs_nil))) (pss_one (ps_expr (pe_meth (pv 0) T.cl_WeightDraft T.m_WeightDraft_weigh G_WeightDraft_weigh (hr.mono (by decide)) (b_WeightDraft_weigh T) .nil pass0 (pa_cons (pv 3) (pa_cons (pe_meth (pv 0) T.cl_WeightDraft T.m_WeightDraft_put G_Draft_put (hr.mono (by decide)) (b_Draft_put T) .nil pass0 (pa_cons (pe_tup (pa_cons (pe_glob (v := .int 0) rfl v_INPUT ⟨_, rfl⟩) (pa_cons (pe_op op_add (pe_fld (pv 1) rfl) (pv 2)) pa_nil))) pa_nil)) pa_nil))))))), ?_⟩
  obtain ⟨d, pa, dx, la, ha, dp, pl, po, ps, w, p, rfl, W, hP, N, ho, hz, k⟩ := h
  have zl : sizeLine = 16777216 := rfl
  refine ⟨_, rfl, pa, _, dp, _, _, rfl, hP.obj, T.cl_Program, T.n_Program_outs, lk_outs _ _ _, po, _, rfl, SqL.of hP.outs, for_enum (K := K) (a := po) (xs := p.outs.map natV)
    (fun i σ H' => ∃ (a b : Option V) (v : Work), σ = [some (.ref d), some (.ref pa), a, b] ∧ But2 H H' la ha ∧ WDraft D H' d dx la ha v ∧ v.bars.length = w.bars.length ∧ v.code.length ≤ w.code.length + 2 * i ∧
      Work.seeds p.inputs p.outs w = Work.seeds (p.inputs + i) (p.outs.drop i) v)
    ⟨none, none, w, rfl, fun b o z _ _ => z, W, rfl, by omega, rfl⟩ (fun i σ H' _ ⟨_, _, v, _, b, _⟩ => SqL.of (W.prog N b hP).outs) ?_ ?_⟩
  · rintro i y σ H1 t hi ⟨a, b, v, rfl, bb, V1, hb, hc, hs⟩ nt
    rw [List.getElem?_map] at hi
    cases hp : p.outs[i]? with
    | none => rw [hp] at hi; cases hi
    | some o =>
      rw [hp] at hi
      obtain rfl : natV o = y := Option.some.inj hi
      have il : i < p.outs.length := (List.getElem?_eq_some_iff.mp hp).1
      have s1 := same_upd (o := .tup [V.int (i : Nat), natV o]) nt
      have V2 := V1.same s1
      have P2 := (W.prog N bb hP).same s1
      refine ⟨t, _, rfl, SqT.of upd_same, rfl, _, _, rfl, _, _, rfl, rfl, ?_⟩
      -- self.weigh(out, self.put((INPUT, program.inputs + o)))
      refine ⟨_, rfl, d, dx, _, rfl, V2.obj, rfl, _, rfl, ?_⟩
      refine ⟨_, rfl, d, dx, _, rfl, V2.obj, rfl, ?_⟩
      refine ⟨_, rfl, pa, _, dp, _, _, rfl, P2.obj, T.cl_Program, T.n_Program_inputs, lk_inputs _ _ _, _, rfl, _, _, rfl, rfl, (by show 2 ≤ sizeLine; decide), fun q hq => ?_⟩
      have s2 := same_upd (o := .tup [V.int 0, V.int ((p.inputs : Int) + ((i : Nat) : Int))]) hq
      have V3 := V2.same s2
      refine ⟨d, q, D.c_WeightDraft, dx, la, _, v.code, .input (p.inputs + i), rfl, T.cl_WeightDraft, T.n_WeightDraft_lines, V3.obj, rfl, V3.lines, upd_same, by omega, fun H4 b4 l4 => ?_⟩
      have V4 := V3.put b4 l4
      have bb4 : But2 H H4 la ha := bb.trans ((Same.but2 s1).trans ((Same.but2 s2).trans b4.but2))
      refine ⟨d, dx, la, ha, _, o, v.code.length, rfl, V4, ?_, ?_, fun H5 b5 V5 => ?_⟩
      · show o < v.bars.length
        rw [hb]
        exact ho o (List.mem_of_getElem? hp)
      · rw [put_len]; omega
      · refine ⟨_, _, _, rfl, bb4.trans b5, V5, ?_, ?_, ?_⟩
        · rw [more_len]; exact hb
        · have := (more_code (v.put (.input (p.inputs + i))).2 o v.code.length).2
          rw [put_len] at this
          omega
        · rw [hs]
          exact seeds_at p.inputs p.outs _ i v rfl o hp
  · rintro σ H1 ⟨a, b, v, rfl, bb, V1, hb, hc, hs⟩
    refine k H1 bb ?_
    rw [hs, List.length_map, List.drop_length]
    exact V1
/-- what passing a line's weight on asks and leaves -/
def spPass (D : Ad) (f : Work → Nat → Line → Nat → Work) (room : Nat) (need : Work → Nat → Line → Nat → Prop) (args : Addr → Nat → Addr → Nat → List V) : Sp := fun vs H Q _ => ∃ (d dx la ha p : Addr) (w : Work) (i b : Nat) (l : Line), vs = args d i p b ∧
  WDraft D H d dx la ha w ∧ H p = some (.tup (lineV l)) ∧ need w i l b ∧ (∀ u ∈ l.uses, u < w.bars.length) ∧ i < w.bars.length ∧ w.code.length + room ≤ 1000000 ∧
  ∀ H' : Hp, But2 H H' la ha → WDraft D H' d dx la ha (f w i l b) → Q .non H'
def argsQ : Addr → Nat → Addr → Nat → List V := fun d i p b => [.ref d, .int (i : Int), .ref p, .int (b : Int)]
theorem ok_WeightDraft_pass_on_quotient (T : Txt K mg D) : FnOk P w K mg base CX0 3 D.a_WeightDraft_pass_on_quotient D.d_WeightDraft_pass_on_quotient P_WeightDraft_pass_on_quotient (spPass D (fun w i l b => w.back i b l) 5 (fun _ _ l _ => kindOf l = 5) argsQ) := by
  have G_Draft_put := ok_Draft_put (P := P) (w := w) (base := base) T
  have G_WeightDraft_weigh := ok_WeightDraft_weigh (P := P) (w := w) (base := base) T
  obtain ⟨t_QUOTIENT, v_QUOTIENT⟩ := T.v_QUOTIENT
  obtain ⟨t_PRODUCT, v_PRODUCT⟩ := T.v_PRODUCT
  obtain ⟨t_OPPOSITE, v_OPPOSITE⟩ := T.v_OPPOSITE
  refine T.F_WeightDraft_pass_on_quotient.ok sc_WeightDraft_pass_on_quotient (fun vs H Q E h => by first | (obtain ⟨rfl, _⟩ := h; rfl) | (obtain ⟨_, rfl, _⟩ := h; rfl) | (obtain ⟨_, _, rfl, _⟩ := h; rfl) | (obtain ⟨_, _, _, rfl, _⟩ := h; rfl) | (obtain ⟨_, _, _, _, rfl, _⟩ := h; rfl) | (obtain ⟨_, _, _, _, _, rfl, _⟩ := h; rfl) | (obtain ⟨_, _, _, _, _, _, rfl, _⟩ := h; rfl) | (obtain ⟨_, _, _, _, _, _, _, rfl, _⟩ := h; rfl) | (obtain ⟨_, _, _, _, _, _, _, _, rfl, _⟩ := h; rfl) | (obtain ⟨_, _, _, _, _, _, _, _, _, rfl, _⟩ := h; rfl) | (obtain ⟨_, _, _, _, _, _, _, _, _, _, rfl, _⟩ := h; rfl) | (obtain ⟨_, _, _, _, _, _, _, _, _, _, _, rfl, _⟩ := h; rfl) | (obtain ⟨_, _, _, _, _, _, _, _, _, _, _, _, rfl, _⟩ := h; rfl)) (fun cdv A outer s H vs Q E hr h => ?_)
  refine ⟨_, (pss_cons (ps_set (i := 4) sc_WeightDraft_pass_on_quotient.nd rfl (.inl rfl) (pe_meth (pv 0) T.cl_WeightDraft T.m_WeightDraft_put G_Draft_put (hr.mono (by decide)) (b_Draft_put T) .nil pass0 (pa_cons (pe_tup (pa_cons (pe_glob (v := .int 5) rfl v_QUOTIENT ⟨_, rfl⟩) (pa_cons (pv 3) (pa_cons (pe_ix ix_tup (pv 2) pe_int (fun _ _ => rfl)) pa_nil)))) pa_nil)))
    (pss_cons (ps_expr (pe_meth (pv 0) T.cl_WeightDraft T.m_WeightDraft_weigh G_WeightDraft_weigh (hr.mono (by decide)) (b_WeightDraft_weigh T) .nil pass0 (pa_cons (pe_ix ix_tup (pv 2) pe_int (fun _ _ => rfl)) (pa_cons (pv 4) pa_nil))))
    (pss_cons (ps_set (i := 5) sc_WeightDraft_pass_on_quotient.nd rfl (.inl rfl) (pe_meth (pv 0) T.cl_WeightDraft T.m_WeightDraft_put G_Draft_put (hr.mono (by decide)) (b_Draft_put T) .nil pass0 (pa_cons (pe_tup (pa_cons (pe_glob (v := .int 4) rfl v_PRODUCT ⟨_, rfl⟩) (pa_cons (pv 4) (pa_cons (pv 1) pa_nil)))) pa_nil)))
    (pss_one (ps_expr (pe_meth (pv 0) T.cl_WeightDraft T.m_WeightDraft_weigh G_WeightDraft_weigh (hr.mono (by decide)) (b_WeightDraft_weigh T) .nil pass0 (pa_cons (pe_ix ix_tup (pv 2) pe_int (fun _ _ => rfl)) (pa_cons (pe_meth (pv 0) T.cl_WeightDraft T.m_WeightDraft_put G_Draft_put (hr.mono (by decide)) (b_Draft_put T) .nil pass0 (pa_cons (pe_tup (pa_cons (pe_glob (v := .int 6) rfl v_OPPOSITE ⟨_, rfl⟩) (pa_cons (pv 5) pa_nil))) pa_nil)) pa_nil)))))))), ?_⟩
  obtain ⟨d, dx, la, ha, p, w, i, b, l, rfl, W, hp, hk, hu, hi, hz, k⟩ := h
  cases l <;> simp [kindOf] at hk
  rename_i j m
  have zl : sizeLine = 16777216 := rfl
  have uj : j < w.bars.length := hu j (by simp [VagraLine.Line.uses])
  have um : m < w.bars.length := hu m (by simp [VagraLine.Line.uses])
  -- q = self.put((QUOTIENT, b, line[2]))
  refine ⟨_, rfl, d, dx, _, rfl, W.obj, rfl, ?_⟩
  refine ⟨_, rfl, _, rfl, _, _, _, _, rfl, rfl, SqT.of hp, rfl, (by show 3 ≤ sizeLine; decide), fun t1 n1 => ?_⟩
  have s1 := same_upd (o := .tup [V.int 5, V.int (b : Int), V.int (m : Int)]) n1
  refine ⟨d, t1, D.c_WeightDraft, dx, la, _, w.code, .div b m, rfl, T.cl_WeightDraft, T.n_WeightDraft_lines, (W.same s1).obj, rfl, (W.same s1).lines, upd_same, by omega, fun H1 b1 l1 => ?_⟩
  have W1 := (W.same s1).put b1 l1
  have B1 : But2 H H1 la ha := (Same.but2 s1).trans b1.but2
  have hl1 := W1.lst
  obtain ⟨xs, hla⟩ := W.lst
  have hp1 := B1 _ _ hp (ne_of hp hla nofun) (ne_of hp W.bars nofun)
  have L1 := put_len w (.div b m)
  -- self.weigh(line[1], q)
  refine ⟨_, rfl, d, dx, _, rfl, W1.obj, rfl, ?_⟩
  refine ⟨_, rfl, _, _, _, _, rfl, rfl, SqT.of hp1, rfl, _, rfl, ?_⟩
  refine ⟨d, dx, la, ha, _, j, w.code.length, rfl, W1, uj, by omega, fun H2 b2 W2 => ?_⟩
  have B2 := B1.trans b2
  have hp2 := B2 _ _ hp (ne_of hp hla nofun) (ne_of hp W.bars nofun)
  have L2 := more_code (w.put (.div b m)).2 j w.code.length
  generalize hw2 : (w.put (.div b m)).2.more j w.code.length = w2 at W2 L2
  have bl2 : w2.bars.length = w.bars.length := by rw [← hw2, more_len]; rfl
  -- part = self.put((PRODUCT, q, i))
  refine ⟨_, rfl, d, dx, _, rfl, W2.obj, rfl, ?_⟩
  refine ⟨_, rfl, _, rfl, (by show 3 ≤ sizeLine; decide), fun t3 n3 => ?_⟩
  have s3 := same_upd (o := .tup [V.int 4, V.int (w.code.length : Int), V.int (i : Int)]) n3
  refine ⟨d, t3, D.c_WeightDraft, dx, la, _, w2.code, .mul w.code.length i, rfl, T.cl_WeightDraft, T.n_WeightDraft_lines, (W2.same s3).obj, rfl, (W2.same s3).lines, upd_same, by omega, fun H3 b3 l3 => ?_⟩
  have W3 := (W2.same s3).put b3 l3
  have B3 := B2.trans ((Same.but2 s3).trans b3.but2)
  have hp3 := B3 _ _ hp (ne_of hp hla nofun) (ne_of hp W.bars nofun)
  have L3 := put_len w2 (.mul w.code.length i)
  -- self.weigh(line[2], self.put((OPPOSITE, part)))
  refine ⟨_, rfl, d, dx, _, rfl, W3.obj, rfl, ?_⟩
  refine ⟨_, rfl, _, _, _, _, rfl, rfl, SqT.of hp3, rfl, ?_⟩
  refine ⟨_, rfl, d, dx, _, rfl, W3.obj, rfl, ?_⟩
  refine ⟨_, rfl, (by show 2 ≤ sizeLine; decide), fun t4 n4 => ?_⟩
  have s4 := same_upd (o := .tup [V.int 6, V.int (w2.code.length : Int)]) n4
  refine ⟨d, t4, D.c_WeightDraft, dx, la, _, (w2.put (.mul w.code.length i)).2.code, .neg w2.code.length, rfl, T.cl_WeightDraft, T.n_WeightDraft_lines, (W3.same s4).obj, rfl, (W3.same s4).lines, upd_same, by omega, fun H4 b4 l4 => ?_⟩
  have W4 := (W3.same s4).put b4 l4
  have B4 := B3.trans ((Same.but2 s4).trans b4.but2)
  have L4 := put_len (w2.put (.mul w.code.length i)).2 (.neg w2.code.length)
  refine ⟨d, dx, la, ha, _, m, (w2.put (.mul w.code.length i)).2.code.length, rfl, W4, (by show m < w2.bars.length; omega), by omega, fun H5 b5 W5 => ?_⟩
  refine k H5 (B4.trans b5) ?_
  subst hw2
  exact W5
def passLine (w : Work) (i : Nat) (l : Line) : Work := match w.bars.getD i none with
  | none => w
  | some b => w.back i b l
def argsP : Addr → Nat → Addr → Nat → List V := fun d i p _ => [.ref d, .int (i : Int), .ref p]
theorem ok_WeightDraft_pass_on (T : Txt K mg D) : FnOk P w K mg base CX0 4 D.a_WeightDraft_pass_on D.d_WeightDraft_pass_on P_WeightDraft_pass_on (spPass D (fun w i l _ => passLine w i l) 5 (fun _ _ _ _ => True) argsP) := by
  have G_WeightDraft_weigh := ok_WeightDraft_weigh (P := P) (w := w) (base := base) T
  have G_Draft_put := ok_Draft_put (P := P) (w := w) (base := base) T
  have G_WeightDraft_pass_on_quotient := ok_WeightDraft_pass_on_quotient (P := P) (w := w) (base := base) T
  obtain ⟨t_CONSTANT, v_CONSTANT⟩ := T.v_CONSTANT
  obtain ⟨t_INPUT, v_INPUT⟩ := T.v_INPUT
  obtain ⟨t_SUM, v_SUM⟩ := T.v_SUM
  obtain ⟨t_DIFFERENCE, v_DIFFERENCE⟩ := T.v_DIFFERENCE
  obtain ⟨t_OPPOSITE, v_OPPOSITE⟩ := T.v_OPPOSITE
  obtain ⟨t_PRODUCT, v_PRODUCT⟩ := T.v_PRODUCT
  obtain ⟨t_QUOTIENT, v_QUOTIENT⟩ := T.v_QUOTIENT
  refine T.F_WeightDraft_pass_on.ok sc_WeightDraft_pass_on (fun vs H Q E h => by first | (obtain ⟨rfl, _⟩ := h; rfl) | (obtain ⟨_, rfl, _⟩ := h; rfl) | (obtain ⟨_, _, rfl, _⟩ := h; rfl) | (obtain ⟨_, _, _, rfl, _⟩ := h; rfl) | (obtain ⟨_, _, _, _, rfl, _⟩ := h; rfl) | (obtain ⟨_, _, _, _, _, rfl, _⟩ := h; rfl) | (obtain ⟨_, _, _, _, _, _, rfl, _⟩ := h; rfl) | (obtain ⟨_, _, _, _, _, _, _, rfl, _⟩ := h; rfl) | (obtain ⟨_, _, _, _, _, _, _, _, rfl, _⟩ := h; rfl) | (obtain ⟨_, _, _, _, _, _, _, _, _, rfl, _⟩ := h; rfl) | (obtain ⟨_, _, _, _, _, _, _, _, _, _, rfl, _⟩ := h; rfl) | (obtain ⟨_, _, _, _, _, _, _, _, _, _, _, rfl, _⟩ := h; rfl) | (obtain ⟨_, _, _, _, _, _, _, _, _, _, _, _, rfl, _⟩ := h; rfl)) (fun cdv A outer s H vs Q E hr h => ?_)
  refine ⟨_, (pss_cons (ps_set (i := 3) sc_WeightDraft_pass_on.nd rfl (.inl rfl) (pe_ix ix_list (pe_fld (pv 0) rfl) (pv 1) (fun _ _ => rfl)))
    (pss_cons (ps_set (i := 4) sc_WeightDraft_pass_on.nd rfl (.inl rfl) (pe_ix ix_tup (pv 2) pe_int (fun _ _ => rfl)))
    (pss_cons (ps_if (PW.pt (pw_or (pt_cmpR op_isN (pv 3) pe_non (nomark _)) (pw_or (pt_cmpR op_eq (pv 4) (pe_glob (v := .int 0) rfl v_INPUT ⟨_, rfl⟩) (nomark _)) (pw_or1 (pt_cmpR op_eq (pv 4) (pe_glob (v := .int 1) rfl v_CONSTANT ⟨_, rfl⟩) (nomark _)))))) (pss_one (ps_retN)) pss_nil)
    (pss_one (ps_if (pt_cmpR op_eq (pv 4) (pe_glob (v := .int 2) rfl v_SUM ⟨_, rfl⟩) (nomark _)) (pss_cons (ps_expr (pe_meth (pv 0) T.cl_WeightDraft T.m_WeightDraft_weigh G_WeightDraft_weigh (hr.mono (by decide)) (b_WeightDraft_weigh T) .nil pass0 (pa_cons (pe_ix ix_tup (pv 2) pe_int (fun _ _ => rfl)) (pa_cons (pv 3) pa_nil))))
      (pss_one (ps_expr (pe_meth (pv 0) T.cl_WeightDraft T.m_WeightDraft_weigh G_WeightDraft_weigh (hr.mono (by decide)) (b_WeightDraft_weigh T) .nil pass0 (pa_cons (pe_ix ix_tup (pv 2) pe_int (fun _ _ => rfl)) (pa_cons (pv 3) pa_nil)))))) (pss_one (ps_if (pt_cmpR op_eq (pv 4) (pe_glob (v := .int 3) rfl v_DIFFERENCE ⟨_, rfl⟩) (nomark _)) (pss_cons (ps_expr (pe_meth (pv 0) T.cl_WeightDraft T.m_WeightDraft_weigh G_WeightDraft_weigh (hr.mono (by decide)) (b_WeightDraft_weigh T) .nil pass0 (pa_cons (pe_ix ix_tup (pv 2) pe_int (fun _ _ => rfl)) (pa_cons (pv 3) pa_nil))))
        (pss_one (ps_expr (pe_meth (pv 0) T.cl_WeightDraft T.m_WeightDraft_weigh G_WeightDraft_weigh (hr.mono (by decide)) (b_WeightDraft_weigh T) .nil pass0 (pa_cons (pe_ix ix_tup (pv 2) pe_int (fun _ _ => rfl)) (pa_cons (pe_meth (pv 0) T.cl_WeightDraft T.m_WeightDraft_put G_Draft_put (hr.mono (by decide)) (b_Draft_put T) .nil pass0 (pa_cons (pe_tup (pa_cons (pe_glob (v := .int 6) rfl v_OPPOSITE ⟨_, rfl⟩) (pa_cons (pv 3) pa_nil))) pa_nil)) pa_nil)))))) (pss_one (ps_if (pt_cmpR op_eq (pv 4) (pe_glob (v := .int 4) rfl v_PRODUCT ⟨_, rfl⟩) (nomark _)) (pss_cons (ps_expr (pe_meth (pv 0) T.cl_WeightDraft T.m_WeightDraft_weigh G_WeightDraft_weigh (hr.mono (by decide)) (b_WeightDraft_weigh T) .nil pass0 (pa_cons (pe_ix ix_tup (pv 2) pe_int (fun _ _ => rfl)) (pa_cons (pe_meth (pv 0) T.cl_WeightDraft T.m_WeightDraft_put G_Draft_put (hr.mono (by decide)) (b_Draft_put T) .nil pass0 (pa_cons (pe_tup (pa_cons (pe_glob (v := .int 4) rfl v_PRODUCT ⟨_, rfl⟩) (pa_cons (pv 3) (pa_cons (pe_ix ix_tup (pv 2) pe_int (fun _ _ => rfl)) pa_nil)))) pa_nil)) pa_nil))))
          (pss_one (ps_expr (pe_meth (pv 0) T.cl_WeightDraft T.m_WeightDraft_weigh G_WeightDraft_weigh (hr.mono (by decide)) (b_WeightDraft_weigh T) .nil pass0 (pa_cons (pe_ix ix_tup (pv 2) pe_int (fun _ _ => rfl)) (pa_cons (pe_meth (pv 0) T.cl_WeightDraft T.m_WeightDraft_put G_Draft_put (hr.mono (by decide)) (b_Draft_put T) .nil pass0 (pa_cons (pe_tup (pa_cons (pe_glob (v := .int 4) rfl v_PRODUCT ⟨_, rfl⟩) (pa_cons (pv 3) (pa_cons (pe_ix ix_tup (pv 2) pe_int (fun _ _ => rfl)) pa_nil)))) pa_nil)) pa_nil)))))) (pss_one (ps_if (pt_cmpR op_eq (pv 4) (pe_glob (v := .int 5) rfl v_QUOTIENT ⟨_, rfl⟩) (nomark _)) (pss_one (ps_expr (pe_meth (pv 0) T.cl_WeightDraft T.m_WeightDraft_pass_on_quotient G_WeightDraft_pass_on_quotient (hr.mono (by decide)) (b_WeightDraft_pass_on_quotient T) .nil pass0 (pa_cons (pv 1) (pa_cons (pv 2) (pa_cons (pv 3) pa_nil)))))) (pss_one (ps_expr (pe_meth (pv 0) T.cl_WeightDraft T.m_WeightDraft_weigh G_WeightDraft_weigh (hr.mono (by decide)) (b_WeightDraft_weigh T) .nil pass0 (pa_cons (pe_ix ix_tup (pv 2) pe_int (fun _ _ => rfl)) (pa_cons (pe_meth (pv 0) T.cl_WeightDraft T.m_WeightDraft_put G_Draft_put (hr.mono (by decide)) (b_Draft_put T) .nil pass0 (pa_cons (pe_tup (pa_cons (pe_glob (v := .int 6) rfl v_OPPOSITE ⟨_, rfl⟩) (pa_cons (pv 3) pa_nil))) pa_nil)) pa_nil)))))))))))))))), ?_⟩
  obtain ⟨d, dx, la, ha, p, w, i, b0, l, rfl, W, hp, _, hu, hi, hz, k⟩ := h
  have zl : sizeLine = 16777216 := rfl
  obtain ⟨xs, hla⟩ := W.lst
  have keep : ∀ {H' : Hp}, But2 H H' la ha → H' p = some (.tup (lineV l)) := fun B => B _ _ hp (ne_of hp hla nofun) (ne_of hp W.bars nofun)
  refine ⟨_, rfl, d, _, dx, _, _, rfl, W.obj, T.cl_WeightDraft, T.n_WeightDraft_holders, rfl, _, rfl, ha, _, (i : Int), _, rfl, rfl, SqL.of W.bars, atI_nat (bar_get hi), ?_⟩
  refine ⟨_, rfl, _, _, _, _, rfl, rfl, SqT.of hp, atI_nat (lineV_kind l), ?_⟩
  refine ⟨_, rfl, rfl, _, rfl, ?_⟩
  have k : ∀ H' : Hp, But2 H H' la ha → WDraft D H' d dx la ha (passLine w i l) → Q .non H' := k
  unfold passLine at k
  cases e : w.bars.getD i none with
  | none =>
    rw [e] at k
    refine ifT rfl ?_
    refine ifT rfl ?_
    exact k H (fun b o z _ _ => z) W
  | some b =>
    rw [e] at k
    refine ifF rfl ?_
    refine ⟨_, rfl, rfl, _, rfl, ?_⟩
    have k : ∀ H' : Hp, But2 H H' la ha → WDraft D H' d dx la ha (w.back i b l) → Q .non H' := k
    cases l with
    | input n =>
      refine ifT rfl ?_
      refine ifT rfl ?_
      exact k H (fun b o z _ _ => z) W
    | num a =>
      refine ifF rfl ?_
      refine ⟨_, rfl, rfl, _, rfl, ?_⟩
      refine ifT rfl ?_
      exact k H (fun b o z _ _ => z) W
    | add j m =>
      have uj : j < w.bars.length := hu j (by simp [VagraLine.Line.uses])
      have um : m < w.bars.length := hu m (by simp [VagraLine.Line.uses])
      refine ifF rfl ?_
      refine ⟨_, rfl, rfl, _, rfl, ?_⟩
      refine ifF rfl ?_
      refine ⟨_, rfl, rfl, _, rfl, ?_⟩
      refine ifT rfl ?_
      refine ⟨_, rfl, d, dx, _, rfl, W.obj, rfl, _, rfl, _, _, _, _, rfl, rfl, SqT.of hp, rfl, _, rfl, ?_⟩
      refine ⟨d, dx, la, ha, w, j, b, rfl, W, uj, by omega, fun H1 B1 W1 => ?_⟩
      have L1 := more_code w j b
      refine ⟨_, rfl, d, dx, _, rfl, W1.obj, rfl, _, rfl, _, _, _, _, rfl, rfl, SqT.of (keep B1), rfl, _, rfl, ?_⟩
      refine ⟨d, dx, la, ha, _, m, b, rfl, W1, by rw [more_len]; exact um, by omega, fun H2 B2 W2 => ?_⟩
      exact k H2 (B1.trans B2) W2
    | sub j m =>
      have uj : j < w.bars.length := hu j (by simp [VagraLine.Line.uses])
      have um : m < w.bars.length := hu m (by simp [VagraLine.Line.uses])
      refine ifF rfl ?_
      refine ⟨_, rfl, rfl, _, rfl, ?_⟩
      refine ifF rfl ?_
      refine ⟨_, rfl, rfl, _, rfl, ?_⟩
      refine ifF rfl ?_
      refine ⟨_, rfl, rfl, _, rfl, ?_⟩
      refine ifT rfl ?_
      refine ⟨_, rfl, d, dx, _, rfl, W.obj, rfl, _, rfl, _, _, _, _, rfl, rfl, SqT.of hp, rfl, _, rfl, ?_⟩
      refine ⟨d, dx, la, ha, w, j, b, rfl, W, uj, by omega, fun H1 B1 W1 => ?_⟩
      have L1 := more_code w j b
      refine ⟨_, rfl, d, dx, _, rfl, W1.obj, rfl, _, rfl, _, _, _, _, rfl, rfl, SqT.of (keep B1), rfl, ?_⟩
      refine ⟨_, rfl, d, dx, _, rfl, W1.obj, rfl, _, rfl, (by show 2 ≤ sizeLine; decide), fun t n => ?_⟩
      have s := same_upd (o := .tup [V.int 6, V.int (b : Int)]) n
      refine ⟨d, t, D.c_WeightDraft, dx, la, _, (w.more j b).code, .neg b, rfl, T.cl_WeightDraft, T.n_WeightDraft_lines, (W1.same s).obj, rfl, (W1.same s).lines, upd_same, by omega, fun H2 b2 l2 => ?_⟩
      have W2 := (W1.same s).put b2 l2
      have B2 := B1.trans ((Same.but2 s).trans b2.but2)
      have L2 := put_len (w.more j b) (.neg b)
      refine ⟨d, dx, la, ha, _, m, (w.more j b).code.length, rfl, W2, (by show m < (w.more j b).bars.length; rw [more_len]; exact um), by omega, fun H3 B3 W3 => ?_⟩
      exact k H3 (B2.trans B3) W3
    | mul j m =>
      have uj : j < w.bars.length := hu j (by simp [VagraLine.Line.uses])
      have um : m < w.bars.length := hu m (by simp [VagraLine.Line.uses])
      refine ifF rfl ?_
      refine ⟨_, rfl, rfl, _, rfl, ?_⟩
      refine ifF rfl ?_
      refine ⟨_, rfl, rfl, _, rfl, ?_⟩
      refine ifF rfl ?_
      refine ⟨_, rfl, rfl, _, rfl, ?_⟩
      refine ifF rfl ?_
      refine ⟨_, rfl, rfl, _, rfl, ?_⟩
      refine ifT rfl ?_
      refine ⟨_, rfl, d, dx, _, rfl, W.obj, rfl, _, rfl, _, _, _, _, rfl, rfl, SqT.of hp, rfl, ?_⟩
      refine ⟨_, rfl, d, dx, _, rfl, W.obj, rfl, _, rfl, _, rfl, _, _, _, _, rfl, rfl, SqT.of hp, rfl, (by show 3 ≤ sizeLine; decide), fun t n => ?_⟩
      have s := same_upd (o := .tup [V.int 4, V.int (b : Int), V.int (m : Int)]) n
      refine ⟨d, t, D.c_WeightDraft, dx, la, _, w.code, .mul b m, rfl, T.cl_WeightDraft, T.n_WeightDraft_lines, (W.same s).obj, rfl, (W.same s).lines, upd_same, by omega, fun H1 b1 l1 => ?_⟩
      have W1 := (W.same s).put b1 l1
      have B1 := (Same.but2 s).trans (b1.but2 (c := ha))
      have L1 := put_len w (.mul b m)
      refine ⟨d, dx, la, ha, _, j, w.code.length, rfl, W1, uj, by omega, fun H2 B2 W2 => ?_⟩
      have B2 := B1.trans B2
      have L2 := more_code (w.put (.mul b m)).2 j w.code.length
      have bl2 : ((w.put (.mul b m)).2.more j w.code.length).bars.length = w.bars.length := by rw [more_len]; rfl
      generalize hw2 : (w.put (.mul b m)).2.more j w.code.length = w2 at W2 L2 bl2
      refine ⟨_, rfl, d, dx, _, rfl, W2.obj, rfl, _, rfl, _, _, _, _, rfl, rfl, SqT.of (keep B2), rfl, ?_⟩
      refine ⟨_, rfl, d, dx, _, rfl, W2.obj, rfl, _, rfl, _, rfl, _, _, _, _, rfl, rfl, SqT.of (keep B2), rfl, (by show 3 ≤ sizeLine; decide), fun t2 n2 => ?_⟩
      have s2 := same_upd (o := .tup [V.int 4, V.int (b : Int), V.int (j : Int)]) n2
      refine ⟨d, t2, D.c_WeightDraft, dx, la, _, w2.code, .mul b j, rfl, T.cl_WeightDraft, T.n_WeightDraft_lines, (W2.same s2).obj, rfl, (W2.same s2).lines, upd_same, by omega, fun H3 b3 l3 => ?_⟩
      have W3 := (W2.same s2).put b3 l3
      have B3 := B2.trans ((Same.but2 s2).trans b3.but2)
      have L3 := put_len w2 (.mul b j)
      refine ⟨d, dx, la, ha, _, m, w2.code.length, rfl, W3, (by show m < w2.bars.length; omega), by omega, fun H4 B4 W4 => ?_⟩
      refine k H4 (B3.trans B4) ?_
      subst hw2
      exact W4
    | div j m =>
      refine ifF rfl ?_
      refine ⟨_, rfl, rfl, _, rfl, ?_⟩
      refine ifF rfl ?_
      refine ⟨_, rfl, rfl, _, rfl, ?_⟩
      refine ifF rfl ?_
      refine ⟨_, rfl, rfl, _, rfl, ?_⟩
      refine ifF rfl ?_
      refine ⟨_, rfl, rfl, _, rfl, ?_⟩
      refine ifF rfl ?_
      refine ⟨_, rfl, rfl, _, rfl, ?_⟩
      refine ifT rfl ?_
      refine ⟨_, rfl, d, dx, _, rfl, W.obj, rfl, _, rfl, _, rfl, _, rfl, ?_⟩
      exact ⟨d, dx, la, ha, p, w, i, b, .div j m, rfl, W, hp, rfl, hu, hi, hz, k⟩
    | neg j =>
      have uj : j < w.bars.length := hu j (by simp [VagraLine.Line.uses])
      refine ifF rfl ?_
      refine ⟨_, rfl, rfl, _, rfl, ?_⟩
      refine ifF rfl ?_
      refine ⟨_, rfl, rfl, _, rfl, ?_⟩
      refine ifF rfl ?_
      refine ⟨_, rfl, rfl, _, rfl, ?_⟩
      refine ifF rfl ?_
      refine ⟨_, rfl, rfl, _, rfl, ?_⟩
      refine ifF rfl ?_
      refine ⟨_, rfl, rfl, _, rfl, ?_⟩
      refine ifF rfl ?_
      refine ⟨_, rfl, d, dx, _, rfl, W.obj, rfl, _, rfl, _, _, _, _, rfl, rfl, SqT.of hp, rfl, ?_⟩
      refine ⟨_, rfl, d, dx, _, rfl, W.obj, rfl, _, rfl, (by show 2 ≤ sizeLine; decide), fun t n => ?_⟩
      have s := same_upd (o := .tup [V.int 6, V.int (b : Int)]) n
      refine ⟨d, t, D.c_WeightDraft, dx, la, _, w.code, .neg b, rfl, T.cl_WeightDraft, T.n_WeightDraft_lines, (W.same s).obj, rfl, (W.same s).lines, upd_same, by omega, fun H2 b2 l2 => ?_⟩
      have W2 := (W.same s).put b2 l2
      have B2 := (Same.but2 s).trans (b2.but2 (c := ha))
      have L2 := put_len w (.neg b)
      refine ⟨d, dx, la, ha, _, j, w.code.length, rfl, W2, uj, by omega, fun H3 B3 W3 => ?_⟩
      exact k H3 (B2.trans B3) W3
def spSum (D : Ad) : Sp := fun vs H Q _ => ∃ (d dx la ha ta : Addr) (w : Work) (t : List Nat), vs = [.ref d, .ref ta] ∧ WDraft D H d dx la ha w ∧ H ta = some (.lst (t.map natV)) ∧ ta ≠ la ∧ w.code.length + t.length + 1 ≤ 1000000 ∧
  ∀ H' : Hp, But H H' la → WDraft D H' d dx la ha (putSum w t).2 → Q (.int ((putSum w t).1 : Int)) H'
theorem sumUp_snoc (a : Nat × Work) (r : List Nat) (y : Nat) : sumUp a (r ++ [y]) = ((sumUp a r).2.code.length, ((sumUp a r).2.put (.add (sumUp a r).1 y)).2) := by
  unfold sumUp
  rw [List.foldl_append]
  rfl
theorem sumUp_len (a : Nat × Work) (r : List Nat) : (sumUp a r).2.code.length = a.2.code.length + r.length := by
  induction r generalizing a with
  | nil => rfl
  | cons y r ih =>
    show (sumUp (a.2.put (.add a.1 y)) r).2.code.length = _
    rw [ih, put_len, List.length_cons]
    omega
theorem ok_WeightDraft_put_sum (T : Txt K mg D) : FnOk P w K mg base CX0 2 D.a_WeightDraft_put_sum D.d_WeightDraft_put_sum P_WeightDraft_put_sum (spSum D) := by
  have G_Draft_put := ok_Draft_put (P := P) (w := w) (base := base) T
  obtain ⟨t_CONSTANT, v_CONSTANT⟩ := T.v_CONSTANT
  obtain ⟨t_SUM, v_SUM⟩ := T.v_SUM
  refine T.F_WeightDraft_put_sum.ok sc_WeightDraft_put_sum (fun vs H Q E h => by first | (obtain ⟨rfl, _⟩ := h; rfl) | (obtain ⟨_, rfl, _⟩ := h; rfl) | (obtain ⟨_, _, rfl, _⟩ := h; rfl) | (obtain ⟨_, _, _, rfl, _⟩ := h; rfl) | (obtain ⟨_, _, _, _, rfl, _⟩ := h; rfl) | (obtain ⟨_, _, _, _, _, rfl, _⟩ := h; rfl) | (obtain ⟨_, _, _, _, _, _, rfl, _⟩ := h; rfl) | (obtain ⟨_, _, _, _, _, _, _, rfl, _⟩ := h; rfl) | (obtain ⟨_, _, _, _, _, _, _, _, rfl, _⟩ := h; rfl) | (obtain ⟨_, _, _, _, _, _, _, _, _, rfl, _⟩ := h; rfl) | (obtain ⟨_, _, _, _, _, _, _, _, _, _, rfl, _⟩ := h; rfl) | (obtain ⟨_, _, _, _, _, _, _, _, _, _, _, rfl, _⟩ := h; rfl) | (obtain ⟨_, _, _, _, _, _, _, _, _, _, _, _, rfl, _⟩ := h; rfl)) (fun cdv A outer s H vs Q E hr h => ?_)
  refine ⟨_, (pss_cons (ps_if (pt_not (pt_truth (pv 1) (fun _ => rfl))) (pss_one (ps_ret (pe_meth (pv 0) T.cl_WeightDraft T.m_WeightDraft_put G_Draft_put (hr.mono (by decide)) (b_Draft_put T) .nil pass0 (pa_cons (pe_tup (pa_cons (pe_glob (v := .int 1) rfl v_CONSTANT ⟨_, rfl⟩) (pa_cons pe_int (pa_cons pe_int pa_nil)))) pa_nil)))) pss_nil)
    (pss_cons (ps_set (i := 2) sc_WeightDraft_put_sum.nd rfl (.inl rfl) (pe_ix ix_list (pv 1) pe_int (fun _ _ => rfl)))
    (pss_cons (ps_for PassesOwn.never rfl (pi_list (pe_slice sl_list (pv 1) (po_some pe_int) po_none)) (pg_name (i := 3) sc_WeightDraft_put_sum.nd rfl (Or.inl rfl)) (pss_one (ps_set (i := 2) sc_WeightDraft_put_sum.nd rfl (.inl rfl) (pe_meth (pv 0) T.cl_WeightDraft T.m_WeightDraft_put G_Draft_put (hr.mono (by decide)) (b_Draft_put T) .nil pass0 (pa_cons (pe_tup (pa_cons (pe_glob (v := .int 2) rfl v_SUM ⟨_, rfl⟩) (pa_cons (pv 2) (pa_cons (pv 3) pa_nil)))) pa_nil)))))
    (pss_one (ps_ret (pv 2)))))), ?_⟩
  obtain ⟨d, dx, la, ha, ta, w, t, rfl, W, ht, nt, hz, k⟩ := h
  have zl : sizeLine = 16777216 := rfl
  refine ⟨_, rfl, _, .inl ⟨_, SqL.of ht, rfl⟩, ?_⟩
  cases t with
  | nil =>
    refine ifT rfl ?_
    refine ⟨_, rfl, d, dx, _, rfl, W.obj, rfl, (by show 3 ≤ sizeLine; decide), fun q hq => ?_⟩
    have s1 := same_upd (o := .tup [V.int 1, V.int 0, V.int 1]) hq
    refine ⟨d, q, D.c_WeightDraft, dx, la, _, w.code, .num Vagraa.zero, rfl, T.cl_WeightDraft, T.n_WeightDraft_lines, (W.same s1).obj, rfl, (W.same s1).lines, upd_same, by omega, fun H1 b1 l1 => ?_⟩
    exact k H1 (Same.but s1 b1) ((W.same s1).put b1 l1)
  | cons x r =>
    refine ifF rfl ?_
    refine ⟨_, rfl, ta, _, 0, natV x, rfl, rfl, SqL.of ht, atI_nat (j := 0) rfl, ?_⟩
    refine ⟨_, rfl, _, rfl, ta, _, rfl, SqL.of ht, fun m hm => ?_⟩
    have e1 : cutV ((x :: r).map natV) (some 1) none = r.map natV := by
      unfold cutV
      have a1 : HT.sIx ((x :: r).map natV).length 0 (some 1) = 1 := by
        simp [HT.sIx]
      have a2 : HT.sIx ((x :: r).map natV).length ((x :: r).map natV).length none = (r.map natV).length + 1 := by
        simp [HT.sIx]
      rw [a1, a2, Nat.add_sub_cancel]
      exact List.take_length
    rw [e1]
    have s1 := same_upd (o := .lst (r.map natV)) hm
    have W1 := W.same s1
    have nml : m ≠ la := by
      obtain ⟨xs, z⟩ := W.lst
      exact (ne_of_none z hm).symm
    refine ⟨_, rfl, ⟨_, SqL.of upd_same⟩, for_list (K := K) (a := m) (xs := r.map natV)
      (fun i σ H' => ∃ v : Option V, σ = [some (.ref d), some (.ref ta), some (.int ((sumUp (x, w) (r.take i)).1 : Int)), v] ∧ But H H' la ∧ H' m = some (.lst (r.map natV)) ∧ WDraft D H' d dx la ha (sumUp (x, w) (r.take i)).2)
      ⟨none, rfl, fun b o z _ => s1 b o z, upd_same, W1⟩ (fun i σ H' _ ⟨_, _, _, b, _⟩ => SqL.of b) ?_ ?_⟩
    · rintro i y σ H1 hi ⟨v, rfl, b0, hm1, W2⟩
      rw [List.getElem?_map] at hi
      cases hp : r[i]? with
      | none => rw [hp] at hi; cases hi
      | some y' =>
        rw [hp] at hi
        obtain rfl : natV y' = y := Option.some.inj hi
        have il : i < r.length := (List.getElem?_eq_some_iff.mp hp).1
        have ln := sumUp_len (x, w) (r.take i)
        simp only [List.length_take] at ln
        refine ⟨_, rfl, d, dx, _, rfl, W2.obj, rfl, _, rfl, _, rfl, (by show 3 ≤ sizeLine; decide), fun q hq => ?_⟩
        have s2 := same_upd (o := .tup [V.int 2, V.int ((sumUp (x, w) (r.take i)).1 : Int), natV y']) hq
        have W3 := W2.same s2
        simp only [List.length_cons] at hz
        refine ⟨d, q, D.c_WeightDraft, dx, la, _, _, .add (sumUp (x, w) (r.take i)).1 y', rfl, T.cl_WeightDraft, T.n_WeightDraft_lines, W3.obj, rfl, W3.lines, upd_same, by omega, fun H4 b4 l4 => ?_⟩
        have W4 := W3.put b4 l4
        refine ⟨some (natV y'), ?_, fun b o z hb => b4 b o (s2 b o (b0 b o z hb)) hb, b4 _ _ (s2 _ _ hm1) nml, ?_⟩
        · rw [take_snoc hp, sumUp_snoc]; rfl
        · rw [take_snoc hp, sumUp_snoc]; exact W4
    · rintro σ H1 ⟨v, rfl, b1, hm1, W2⟩
      rw [List.length_map, List.take_length] at W2
      refine ⟨_, rfl, ?_⟩
      rw [List.length_map, List.take_length]
      exact k H1 b1 W2
end Lc
set_option Elab.async false
set_option linter.all false
set_option maxRecDepth 100000
set_option maxHeartbeats 4000000
namespace Lc
open PySem PySem.Spec PyProof.Rows L2
open Vagraa (Frac frac)
open VagraLine (Line)
open Vagrai (Prog Work)
variable {P : Program} {w : World} {K : PySem.W.Frag} {mg : Str → Option Value} {base : Heap} {D : Ad}
/-- the weights of the lines ahead of i that are input k -/
def takenTo (c : List Line) (k : Nat) (bars : List (Option Nat)) (i : Nat) : List Nat := ((List.range i).filter fun j => decide (c.getD j (Line.num Vagraa.zero) = Line.input k)).filterMap fun j => bars.getD j none
theorem takenTo_all (c : List Line) (k : Nat) (bars : List (Option Nat)) : takenTo c k bars c.length = taken c k bars := rfl
theorem takenTo_succ (c : List Line) (k : Nat) (bars : List (Option Nat)) (i : Nat) :
    takenTo c k bars (i + 1) = takenTo c k bars i ++ (if c.getD i (Line.num Vagraa.zero) = Line.input k then (bars.getD i none).toList else []) := by
  unfold takenTo
  rw [List.range_succ, List.filter_append, List.filterMap_append]
  congr 1
  by_cases h : c.getD i (Line.num Vagraa.zero) = Line.input k
  · rw [if_pos h]
    simp only [List.filter_cons, h, decide_true, if_true, List.filter_nil, List.filterMap_cons, List.filterMap_nil]
    cases bars.getD i none <;> rfl
  · rw [if_neg h]
    simp only [List.filter_cons, decide_eq_false h, List.filter_nil]
    rfl
theorem takenTo_len (c : List Line) (k : Nat) (bars : List (Option Nat)) (i : Nat) : (takenTo c k bars i).length ≤ i := by
  unfold takenTo
  refine Nat.le_trans (List.length_filterMap_le ..) (Nat.le_trans (List.length_filter_le ..) ?_)
  simp
/-- the lists of what is taken, one for each input -/
structure Takes_ (H : Hp) (ts : List Addr) (f : Nat → List Nat) : Prop where
  at_ : ∀ (k : Nat) (t : Addr), ts[k]? = some t → H t = some (.lst ((f k).map natV))
  nd : ts.Nodup
theorem Takes_.set {H : Hp} {ts : List Addr} {f g : Nat → List Nat} (h : Takes_ H ts f) {k : Nat} {t : Addr} (hk : ts[k]? = some t) (e : ∀ j, j ≠ k → f j = g j) : Takes_ (upd H t (.lst ((g k).map natV))) ts g := by
  refine ⟨fun j u hu => ?_, h.nd⟩
  by_cases hj : j = k
  · subst hj
    rw [hk] at hu
    cases hu
    exact upd_same
  · have hne : u ≠ t := fun z => by
      subst z
      exact hj (nd_ix h.nd hu hk)
    rw [upd_ne hne, ← e j hj]
    exact h.at_ j u hu
theorem Takes_.keep {H H' : Hp} {ts : List Addr} {f : Nat → List Nat} (h : Takes_ H ts f) (k : ∀ t ∈ ts, ∀ o, H t = some o → H' t = some o) : Takes_ H' ts f := ⟨fun i t e => k t (List.mem_of_getElem? e) _ (h.at_ i t e), h.nd⟩
theorem Takes_.eqf {H : Hp} {ts : List Addr} {f g : Nat → List Nat} (h : Takes_ H ts f) (e : ∀ j, f j = g j) : Takes_ H ts g := ⟨fun k t hk => by rw [← e]; exact h.at_ k t hk, h.nd⟩
def spGather (D : Ad) : Sp := fun vs H Q _ => ∃ (d pa dx la ha dp pl po : Addr) (ps : List Addr) (w : Work) (p : Prog), vs = [.ref d, .ref pa] ∧ WDraft D H d dx la ha w ∧ ProgL D H pa dp pl po ps p ∧ Apart pl po la ha ∧
  CodeOk p.inputs p.code ∧ w.bars.length = p.code.length ∧ w.code.length + p.inputs * (p.code.length + 1) ≤ 900000 ∧ p.inputs ≤ 1000 ∧ p.code.length ≤ 100000 ∧
  ∀ (H' : Hp) (q : Addr), But H H' la → H q = none → WDraft D H' d dx la ha (Work.gatherAll p.code (List.range p.inputs) w).2 → H' q = some (.lst ((Work.gatherAll p.code (List.range p.inputs) w).1.map natV)) → Q (.ref q) H'
theorem ok_WeightDraft_gather (T : Txt K mg D) : FnOk P w K mg base CX0 3 D.a_WeightDraft_gather D.d_WeightDraft_gather P_WeightDraft_gather (spGather D) := by
  have G_WeightDraft_put_sum := ok_WeightDraft_put_sum (P := P) (w := w) (base := base) T
  obtain ⟨t_INPUT, v_INPUT⟩ := T.v_INPUT
  refine T.F_WeightDraft_gather.ok sc_WeightDraft_gather (fun vs H Q E h => by first | (obtain ⟨rfl, _⟩ := h; rfl) | (obtain ⟨_, rfl, _⟩ := h; rfl) | (obtain ⟨_, _, rfl, _⟩ := h; rfl) | (obtain ⟨_, _, _, rfl, _⟩ := h; rfl) | (obtain ⟨_, _, _, _, rfl, _⟩ := h; rfl) | (obtain ⟨_, _, _, _, _, rfl, _⟩ := h; rfl) | (obtain ⟨_, _, _, _, _, _, rfl, _⟩ := h; rfl) | (obtain ⟨_, _, _, _, _, _, _, rfl, _⟩ := h; rfl) | (obtain ⟨_, _, _, _, _, _, _, _, rfl, _⟩ := h; rfl) | (obtain ⟨_, _, _, _, _, _, _, _, _, rfl, _⟩ := h; rfl) | (obtain ⟨_, _, _, _, _, _, _, _, _, _, rfl, _⟩ := h; rfl) | (obtain ⟨_, _, _, _, _, _, _, _, _, _, _, rfl, _⟩ := h; rfl) | (obtain ⟨_, _, _, _, _, _, _, _, _, _, _, _, rfl, _⟩ := h; rfl)) (fun cdv A outer s H vs Q E hr h => ?_)
  refine ⟨_, (pss_cons (ps_setLc (i := 2) (own := [("k", 5)]) (g := gName 5) (tt := tYes) rfl sc_WeightDraft_gather.nd rfl rfl (sw_true rfl rfl rfl (by decide +kernel)) (pi_range1 rfl T.f_range (pa_cons (pe_fld (pv 1) rfl) pa_nil)) (blkOk_by (own := [("k", 5)]) (N := N_WeightDraft_gather) (sc := defScope s_WeightDraft_gather) (by decide +kernel)) (fun _ _ _ _ _ => pg_name (i := 5) sc_WeightDraft_gather.nd rfl (Or.inl rfl)) (fun _ _ _ _ _ => pts_nil) (fun _ _ _ _ _ => (pe_lst pa_nil)))
    (pss_cons (ps_for PassesOwn.never rfl (pi_enum (by rfl) T.f_enumerate (pa_cons (pe_fld (pv 1) rfl) pa_nil)) (pg_tup rfl (pgs_cons (pg_name (i := 3) sc_WeightDraft_gather.nd rfl (Or.inl rfl)) (pgs_cons (pg_name (i := 4) sc_WeightDraft_gather.nd rfl (Or.inl rfl)) pgs_nil))) (pss_one (ps_if (PW.pt (pw_and (pt_cmpR op_eq (pe_ix ix_tup (pv 4) pe_int (fun _ _ => rfl)) (pe_glob (v := .int 0) rfl v_INPUT ⟨_, rfl⟩) (nomark _)) (pw_and1 (pt_cmpR op_notN (pe_ix ix_list (pe_fld (pv 0) rfl) (pv 3) (fun _ _ => rfl)) pe_non (nomark _))))) (pss_one (ps_expr (pe_bm PySem.F.plainAttrs_list PySem.F.slot_list_append PySem.F.type_list_append mt_append (pe_ix ix_list (pv 2) (pe_ix ix_tup (pv 4) pe_int (fun _ _ => rfl)) (fun _ _ => rfl)) (pa_cons (pe_ix ix_list (pe_fld (pv 0) rfl) (pv 3) (fun _ _ => rfl)) pa_nil)))) pss_nil)))
    (pss_one (ps_ret (pe_lc (own := [("taken", 6)]) (g := gName 6) (tt := tYes) rfl sc_WeightDraft_gather.nd (pi_list (pv 2)) (blkOk_by (own := [("taken", 6)]) (N := N_WeightDraft_gather) (sc := defScope s_WeightDraft_gather) (by decide +kernel)) (fun _ _ _ _ _ => pg_name (i := 6) sc_WeightDraft_gather.nd rfl (Or.inl rfl)) (fun _ _ _ _ _ => pts_nil) (fun _ _ _ _ _ => (pe_meth (pv 0) T.cl_WeightDraft T.m_WeightDraft_put_sum G_WeightDraft_put_sum (hr.mono (by decide)) (b_WeightDraft_put_sum T) .nil pass0 (pa_cons (pv 6) pa_nil)))))))), ?_⟩
  obtain ⟨d, pa, dx, la, ha, dp, pl, po, ps, w, p, rfl, W, hP, N, hok, hb, hz, hn, hL, k⟩ := h
  have zl : sizeLine = 16777216 := rfl
  obtain ⟨wl, hwl⟩ := W.lst
  -- takings
  refine ⟨_, rfl, pa, _, dp, _, _, rfl, hP.obj, T.cl_Program, T.n_Program_inputs, lk_inputs _ _ _, _, rfl, by omega, by omega, fun M hM => lc_range (lo := 0) (n := p.inputs)
    (fun i H' => Same H H' ∧ ∃ ts : List Addr, H' M = some (.lst (ts.map V.ref)) ∧ ts.length = i ∧ (∀ t ∈ ts, H t = none ∧ t ≠ M) ∧ Takes_ H' ts (fun _ => []))
    ⟨same_upd hM, [], upd_same, rfl, fun t ht => by simp at ht, ⟨fun k t e => by simp at e, List.nodup_nil⟩⟩ (fun i H' hi e => ?_) (fun H1 e => ?_)⟩
  · obtain ⟨s, ts, h1, h2, h3, h4⟩ := e
    refine ⟨rfl, ?_⟩
    refine ⟨(by show 0 ≤ sizeLine; decide), fun q hq => ?_⟩
    have hqM : M ≠ q := ne_of_none h1 hq
    have hqt : ∀ t ∈ ts, t ≠ q := fun t ht => by
      obtain ⟨j, hj, e⟩ := List.getElem_of_mem ht
      exact ne_of_none (h4.at_ j t (by rw [List.getElem?_eq_getElem hj, e])) hq
    refine ⟨_, (upd_ne hqM).trans h1, by simp; omega, ?_, ts ++ [q], by rw [upd_same]; simp, by simp [h2], ?_, ?_⟩
    · intro b o z
      rw [upd_ne (ne_of_none z hM), upd_ne (ne_of_none (s _ _ z) hq)]
      exact s _ _ z
    · intro t ht
      rcases List.mem_append.mp ht with ht | ht
      · exact h3 t ht
      · obtain rfl : t = q := by simpa using ht
        exact ⟨s.free hq, hqM.symm⟩
    · refine ⟨fun j t e => ?_, ?_⟩
      · have hmem := List.mem_of_getElem? e
        rcases List.mem_append.mp hmem with ht | ht
        · obtain ⟨j', hj', e'⟩ := List.getElem_of_mem ht
          rw [upd_ne (h3 t ht).2, upd_ne (hqt t ht)]
          exact h4.at_ j' t (by rw [List.getElem?_eq_getElem hj', e'])
        · obtain rfl : t = q := by simpa using ht
          rw [upd_ne hqM.symm, upd_same]
          rfl
      · rw [List.nodup_append]
        exact ⟨h4.nd, by simp, fun a ha b hb => by
          obtain rfl : b = q := by simpa using hb
          exact hqt a ha⟩
  obtain ⟨s1, ts, t1, t2, t3, t4⟩ := e
  have la1 := s1 _ _ hwl
  have tne : ∀ {b : Addr} {o : HO}, H b = some o → ∀ t ∈ ts, b ≠ t := fun z t ht => ne_of_none z (t3 t ht).1
  -- the loop
  refine ⟨_, rfl, pa, _, dp, _, _, rfl, s1 _ _ hP.obj, T.cl_Program, T.n_Program_lines, lk_lines _ _ _, pl, _, rfl, SqL.of (s1 _ _ hP.lst), for_enum (K := K) (a := pl) (xs := ps.map V.ref)
    (fun i σ H' => ∃ a b u v : Option V, σ = [some (.ref d), some (.ref pa), some (.ref M), a, b, u, v] ∧ Same H H' ∧ H' M = some (.lst (ts.map V.ref)) ∧ Takes_ H' ts (fun k => takenTo p.code k w.bars i))
    ⟨none, none, none, none, rfl, s1, t1, t4⟩ (fun i σ H' _ ⟨_, _, _, _, _, b, _⟩ => SqL.of (b _ _ hP.lst)) ?_ ?_⟩
  · rintro i y σ H2 t hi ⟨a, b, u, v, rfl, s2, m2, k2⟩ nt
    rw [List.getElem?_map] at hi
    cases hp : ps[i]? with
    | none => rw [hp] at hi; cases hi
    | some q =>
      rw [hp] at hi
      obtain rfl : V.ref q = y := Option.some.inj hi
      obtain ⟨l, hl, hq⟩ := hP.lines.get' hp
      have il : i < p.code.length := (List.getElem?_eq_some_iff.mp hl).1
      have st := same_upd (o := .tup [V.int (i : Nat), V.ref q]) nt
      have s3 := s2.trans st
      have m3 := st _ _ m2
      have k3 : Takes_ (upd H2 t (.tup [V.int (i : Nat), V.ref q])) ts (fun k => takenTo p.code k w.bars i) := k2.keep fun t _ o z => st _ _ z
      have W3 := W.same s3
      have hq3 := s3 _ _ hq
      have gd : p.code.getD i (Line.num Vagraa.zero) = l := by rw [List.getD_eq_getElem?_getD, hl]; rfl
      have nowt : ∀ k, p.code.getD i (Line.num Vagraa.zero) ≠ Line.input k ∨ w.bars.getD i none = none → takenTo p.code k w.bars i = takenTo p.code k w.bars (i + 1) := fun k h => by
        rw [takenTo_succ]
        rcases h with h | h
        · rw [if_neg h, List.append_nil]
        · rw [h]
          simp
      refine ⟨t, _, rfl, SqT.of upd_same, rfl, _, _, rfl, _, _, rfl, rfl, ?_⟩
      refine ⟨_, rfl, _, _, _, _, rfl, rfl, SqT.of hq3, atI_nat (lineV_kind l), rfl, _, rfl, ?_⟩
      by_cases c0 : kindOf l = 0
      · refine ifT (decide_eq_true (by rw [c0])) ?_
        refine ⟨_, rfl, d, _, dx, _, _, rfl, W3.obj, T.cl_WeightDraft, T.n_WeightDraft_holders, rfl, _, rfl, ha, _, (i : Int), _, rfl, rfl, SqL.of W3.bars, atI_nat (bar_get (by omega)), rfl, _, rfl, ?_⟩
        cases e : w.bars.getD i none with
        | none =>
          refine ifF rfl ?_
          exact ⟨_, _, _, _, rfl, s3, m3, k3.eqf fun j => nowt j (.inr e)⟩
        | some x =>
          refine ifT rfl ?_
          cases l <;> simp [kindOf] at c0
          rename_i kk
          have hkk : kk < p.inputs := (hok i _ hl).inp kk rfl
          have htk : ts[kk]? = some ts[kk] := List.getElem?_eq_getElem (by omega)
          have tm : ts[kk] ∈ ts := List.getElem_mem _
          have htl := k3.at_ kk _ htk
          have tl := takenTo_len p.code kk w.bars i
          refine ⟨_, rfl, _, rfl, _, _, _, _, rfl, rfl, SqT.of hq3, rfl, M, _, (kk : Int), V.ref ts[kk], rfl, rfl, SqL.of m3, atI_nat (by rw [List.getElem?_map, htk]; rfl), .inl ⟨rfl, _, SqL.of htl⟩, ?_⟩
          refine ⟨_, rfl, d, _, dx, _, _, rfl, W3.obj, T.cl_WeightDraft, T.n_WeightDraft_holders, rfl, _, rfl, ha, _, (i : Int), _, rfl, rfl, SqL.of W3.bars, atI_nat (bar_get (by omega)), ?_⟩
          refine ⟨ts[kk], _, _, rfl, rfl, htl, by simp; omega, ?_⟩
          have ee : (takenTo p.code kk w.bars i).map natV ++ [optV (w.bars.getD i none)] = (takenTo p.code kk w.bars (i + 1)).map natV := by
            rw [takenTo_succ, if_pos gd, e, List.map_append]
            rfl
          rw [ee]
          refine ⟨_, _, _, _, rfl, fun b o z => ?_, ?_, ?_⟩
          · rw [upd_ne (tne z _ tm)]; exact s3 _ _ z
          · rw [upd_ne (t3 _ tm).2.symm]; exact m3
          · refine k3.set htk (g := fun k => takenTo p.code k w.bars (i + 1)) fun j hj => nowt j (.inl ?_)
            rw [gd]
            intro z
            cases z
            exact hj rfl
      · refine ifF (decide_eq_false fun z => c0 (by injection z)) ?_
        refine ifF rfl ?_
        refine ⟨_, _, _, _, rfl, s3, m3, k3.eqf fun j => nowt j (.inl ?_)⟩
        rw [gd]
        intro z
        subst z
        exact c0 rfl
  · rintro σ H2 ⟨a, b, u, v, rfl, s2, m2, k2⟩
    rw [List.length_map, hP.lines.len] at k2
    have k2 : Takes_ H2 ts (fun k => taken p.code k w.bars) := k2
    have W2 := W.same s2
    have tla : ∀ t ∈ ts, t ≠ la := fun t ht => (tne hwl t ht).symm
    have Mla : M ≠ la := (ne_of_none hwl hM).symm
    -- [self.put_sum(taken) for taken in takings]
    refine ⟨_, rfl, M, rfl, ⟨_, SqL.of m2⟩, fun R hR => lc_list (K := K) (a := M) (xs := ts.map V.ref)
      (fun i H' => ∃ (acc : List Nat) (v : Work), But H2 H' la ∧ H' R = some (.lst (acc.map natV)) ∧ WDraft D H' d dx la ha v ∧ v.bars = w.bars ∧ acc.length = i ∧ v.code.length ≤ w.code.length + i * (p.code.length + 1) ∧
        Work.gatherAll p.code (List.range p.inputs) w = (acc ++ (Work.gatherAll p.code ((List.range p.inputs).drop i) v).1, (Work.gatherAll p.code ((List.range p.inputs).drop i) v).2))
      ⟨[], w, fun b o z _ => same_upd hR _ _ z, upd_same, W2.same (same_upd hR), rfl, rfl, by omega, rfl⟩ (fun i H' _ ⟨_, _, b, _⟩ => SqL.of (b _ _ m2 Mla)) (fun i y H3 hi e => ?_) (fun H3 e => ?_)⟩
    · obtain ⟨acc, v, b3, r3, V3, vb, al, vc, hg⟩ := e
      have Rla : R ≠ la := by
        obtain ⟨xs, z⟩ := W2.lst
        exact (ne_of_none z hR).symm
      rw [List.getElem?_map] at hi
      cases hp : ts[i]? with
      | none => rw [hp] at hi; cases hi
      | some t =>
        rw [hp] at hi
        obtain rfl : V.ref t = y := Option.some.inj hi
        have il : i < p.inputs := by rw [← t2]; exact (List.getElem?_eq_some_iff.mp hp).1
        have tm := List.mem_of_getElem? hp
        have ht3 := b3 _ _ (k2.at_ i t hp) (tla t tm)
        have tkl := taken_len p.code i v.bars
        have hmul : i * (p.code.length + 1) + (p.code.length + 1) ≤ p.inputs * (p.code.length + 1) := by
          have := Nat.mul_le_mul_right (p.code.length + 1) (show i + 1 ≤ p.inputs by omega)
          rw [Nat.add_mul, Nat.one_mul] at this
          exact this
        refine ⟨rfl, ?_⟩
        refine ⟨_, rfl, d, dx, _, rfl, V3.obj, rfl, _, rfl, ?_⟩
        refine ⟨d, dx, la, ha, t, v, taken p.code i v.bars, rfl, V3, by rw [vb]; exact ht3, tla t tm, by omega, fun H4 b4 V4 => ?_⟩
        have r4 := b4 _ _ r3 Rla
        have ps1 : (putSum v (taken p.code i v.bars)).2.bars = v.bars := by
          cases hc : taken p.code i v.bars with
          | nil => rfl
          | cons x r =>
            show (sumUp (x, v) r).2.bars = v.bars
            have : ∀ (r : List Nat) (a : Nat × Work), (sumUp a r).2.bars = a.2.bars := by
              intro r
              induction r with
              | nil => intro a; rfl
              | cons y r ih => intro a; exact (ih _).trans rfl
            exact this r _
        have ps2 : (putSum v (taken p.code i v.bars)).2.code.length ≤ v.code.length + (p.code.length + 1) := by
          cases hc : taken p.code i v.bars with
          | nil =>
            show (v.put (.num Vagraa.zero)).2.code.length ≤ _
            rw [put_len]; omega
          | cons x r =>
            show (sumUp (x, v) r).2.code.length ≤ _
            rw [sumUp_len]
            rw [hc] at tkl
            simp only [List.length_cons] at tkl
            show v.code.length + r.length ≤ _
            omega
        refine ⟨_, r4, by simp; omega, acc ++ [(putSum v (taken p.code i v.bars)).1], (putSum v (taken p.code i v.bars)).2, fun b o z hb => ?_, by rw [upd_same, List.map_append]; rfl, ?_, ps1.trans vb, by simp [al], by rw [Nat.add_mul, Nat.one_mul]; omega, ?_⟩
        · have : b ≠ R := ne_of_none z hR
          rw [upd_ne this]
          exact b4 _ _ (b3 _ _ z hb) hb
        · have RW : WDraft D H4 d dx la ha (putSum v (taken p.code i v.bars)).2 := V4
          obtain ⟨qs, hq1, hq2⟩ := RW.lines
          have Rha : ha ≠ R := ne_of_none W2.bars hR
          exact ⟨(upd_ne (ne_of RW.obj r4 nofun)).trans RW.obj, ⟨qs, (upd_ne Rla.symm).trans hq1, hq2.keep fun q xs z => (upd_ne (ne_of z r4 nofun)).trans z⟩, (upd_ne Rha).trans RW.bars, RW.ne⟩
        · rw [hg]
          have hr : (List.range p.inputs).drop i = i :: (List.range p.inputs).drop (i + 1) := by
            rw [List.drop_eq_getElem_cons (by simp; omega)]
            simp
          rw [hr, gatherAll_cons, gather_is]
          simp
    · obtain ⟨acc, v, b3, r3, V3, vb, al, vc, hg⟩ := e
      rw [List.length_map, t2] at hg
      have hd : (List.range p.inputs).drop p.inputs = [] := by simp
      rw [hd] at hg
      have hg : Work.gatherAll p.code (List.range p.inputs) w = (acc, v) := by rw [hg]; simp [Work.gatherAll]
      refine k H3 R (fun b o z hb => b3 _ _ (s2 _ _ z) hb) (s2.free hR) ?_ ?_
      · rw [hg]; exact V3
      · rw [hg]; exact r3
end Lc
set_option Elab.async false
set_option linter.all false
set_option maxRecDepth 100000
set_option maxHeartbeats 4000000
namespace Lc
open PySem PySem.Spec PyProof.Rows L2
open Vagraa (Frac frac)
open VagraLine (Line)
open Vagrai (Prog Work)
variable {P : Program} {w : World} {K : PySem.W.Frag} {mg : Str → Option Value} {base : Heap} {D : Ad}
/-- what is held keeps to these bounds -/
structure Modest (p : Prog) : Prop where
  inputs : p.inputs ≤ 24
  code : p.code.length ≤ 600
  outs : p.outs.length ≤ 24
theorem back_len (w : Work) (v b : Nat) (l : Line) : (w.back v b l).code.length ≤ w.code.length + 5 ∧ (w.back v b l).bars.length = w.bars.length := by
  have M := more_code
  have N := more_len
  cases l with
  | input k => exact ⟨Nat.le_add_right .., rfl⟩
  | num a => exact ⟨Nat.le_add_right .., rfl⟩
  | add i j =>
    have a := M w i b
    have c := M (w.more i b) j b
    exact ⟨by show ((w.more i b).more j b).code.length ≤ _; omega, by show ((w.more i b).more j b).bars.length = _; rw [N, N]⟩
  | sub i j =>
    have a := M w i b
    have e := put_len (w.more i b) (.neg b)
    have c := M ((w.more i b).put (.neg b)).2 j (w.more i b).code.length
    exact ⟨by show (((w.more i b).put (.neg b)).2.more j (w.more i b).code.length).code.length ≤ _; omega, by show (((w.more i b).put (.neg b)).2.more j (w.more i b).code.length).bars.length = _; rw [N]; exact N w i b⟩
  | mul i j =>
    have e := put_len w (.mul b j)
    have a := M (w.put (.mul b j)).2 i w.code.length
    have n := N (w.put (.mul b j)).2 i w.code.length
    generalize h : (w.put (.mul b j)).2.more i w.code.length = w2 at a n
    have e2 := put_len w2 (.mul b i)
    have c := M (w2.put (.mul b i)).2 j w2.code.length
    have n2 := N (w2.put (.mul b i)).2 j w2.code.length
    have r : w.back v b (.mul i j) = (w2.put (.mul b i)).2.more j w2.code.length := by subst h; rfl
    rw [r]
    exact ⟨by omega, n2.trans n⟩
  | div i j =>
    have e := put_len w (.div b j)
    have a := M (w.put (.div b j)).2 i w.code.length
    have n := N (w.put (.div b j)).2 i w.code.length
    generalize h : (w.put (.div b j)).2.more i w.code.length = w2 at a n
    have e2 := put_len w2 (.mul w.code.length v)
    generalize h3 : (w2.put (.mul w.code.length v)).2 = w3 at e2
    have b3 : w3.bars = w2.bars := by subst h3; rfl
    have e3 := put_len w3 (.neg w2.code.length)
    have c := M (w3.put (.neg w2.code.length)).2 j w3.code.length
    have n2 := N (w3.put (.neg w2.code.length)).2 j w3.code.length
    have r : w.back v b (.div i j) = (w3.put (.neg w2.code.length)).2.more j w3.code.length := by subst h3 h; rfl
    rw [r]
    exact ⟨by omega, n2.trans ((congrArg List.length b3).trans n)⟩
  | neg i =>
    have e := put_len w (.neg b)
    have a := M (w.put (.neg b)).2 i w.code.length
    exact ⟨by show ((w.put (.neg b)).2.more i w.code.length).code.length ≤ _; omega, N (w.put (.neg b)).2 i w.code.length⟩
theorem pass_len (w : Work) (i : Nat) (l : Line) : (passLine w i l).code.length ≤ w.code.length + 5 ∧ (passLine w i l).bars.length = w.bars.length := by
  unfold passLine
  cases w.bars.getD i none with
  | none => exact ⟨Nat.le_add_right .., rfl⟩
  | some b => exact back_len w i b l
theorem seeds_len : ∀ (outs : List Nat) (k : Nat) (w : Work), (Work.seeds k outs w).code.length ≤ w.code.length + 2 * outs.length ∧ (Work.seeds k outs w).bars.length = w.bars.length
  | [], k, w => ⟨by simp [Work.seeds], rfl⟩
  | o :: r, k, w => by
    rw [seeds_cons]
    obtain ⟨a, b⟩ := seeds_len r (k + 1) ((w.put (.input k)).2.more o w.code.length)
    have c := more_code (w.put (.input k)).2 o w.code.length
    have e := put_len w (.input k)
    rw [more_len] at b
    simp only [List.length_cons]
    exact ⟨by omega, b⟩
theorem backAll_down (c : List Line) {L t : Nat} (h : t < L) (v : Work) : Work.backAll c (L - t) v = Work.backAll c (L - (t + 1)) (passLine v (L - 1 - t) (c.getD (L - 1 - t) (.num Vagraa.zero))) := by
  have e : L - t = (L - (t + 1)) + 1 := by omega
  have e2 : L - 1 - t = L - (t + 1) := by omega
  rw [e, backAll_succ, e2]
  rfl
def spMadeP (D : Ad) (f : Prog → Prog) : Sp := fun vs H Q _ => ∃ (pa : Addr) (p : Prog), vs = [.ref pa] ∧ ProgAt D H pa p ∧ ProgOk p ∧ Modest p ∧ GiveP D H Q (f p)
theorem ok_backward (T : Txt K mg D) : FnOk P w K mg base CX0 5 D.a_backward D.d_backward P_backward (spMadeP D Vagrai.backward) := by
  have G_WeightDraft_init := ok_WeightDraft_init (P := P) (w := w) (base := base) T
  have G_WeightDraft_weigh_outs := ok_WeightDraft_weigh_outs (P := P) (w := w) (base := base) T
  have G_WeightDraft_pass_on := ok_WeightDraft_pass_on (P := P) (w := w) (base := base) T
  have G_WeightDraft_gather := ok_WeightDraft_gather (P := P) (w := w) (base := base) T
  have G_Program_init := ok_Program_init (P := P) (w := w) (base := base) T
  refine T.F_backward.ok sc_backward (fun vs H Q E h => by first | (obtain ⟨rfl, _⟩ := h; rfl) | (obtain ⟨_, rfl, _⟩ := h; rfl) | (obtain ⟨_, _, rfl, _⟩ := h; rfl) | (obtain ⟨_, _, _, rfl, _⟩ := h; rfl) | (obtain ⟨_, _, _, _, rfl, _⟩ := h; rfl) | (obtain ⟨_, _, _, _, _, rfl, _⟩ := h; rfl) | (obtain ⟨_, _, _, _, _, _, rfl, _⟩ := h; rfl) | (obtain ⟨_, _, _, _, _, _, _, rfl, _⟩ := h; rfl) | (obtain ⟨_, _, _, _, _, _, _, _, rfl, _⟩ := h; rfl) | (obtain ⟨_, _, _, _, _, _, _, _, _, rfl, _⟩ := h; rfl) | (obtain ⟨_, _, _, _, _, _, _, _, _, _, rfl, _⟩ := h; rfl) | (obtain ⟨_, _, _, _, _, _, _, _, _, _, _, rfl, _⟩ := h; rfl) | (obtain ⟨_, _, _, _, _, _, _, _, _, _, _, _, rfl, _⟩ := h; rfl)) (fun cdv A outer s H vs Q E hr h => ?_)
  refine ⟨_, (pss_cons (ps_set (i := 1) sc_backward.nd rfl (.inl rfl) (pe_make T.mk_WeightDraft G_WeightDraft_init (hr.mono (by decide)) rfl T.g_WeightDraft (b_WeightDraft_init T) .nil pass0 (pa_cons (pv 0) pa_nil)))
    (pss_cons (ps_expr (pe_meth (pv 1) T.cl_WeightDraft T.m_WeightDraft_weigh_outs G_WeightDraft_weigh_outs (hr.mono (by decide)) (b_WeightDraft_weigh_outs T) .nil pass0 (pa_cons (pv 0) pa_nil)))
    (pss_cons (ps_for PassesOwn.never rfl (pi_range3 rfl T.f_range (pa_cons (pe_op op_sub (pe_callB call_len_seq (by rfl) T.f_len PySem.boot_len (pa_cons (pe_fld (pv 0) rfl) pa_nil)) pe_int) (pa_cons (pe_un un_neg pe_int) (pa_cons (pe_un un_neg pe_int) pa_nil)))) (pg_name (i := 2) sc_backward.nd rfl (Or.inl rfl)) (pss_one (ps_expr (pe_meth (pv 1) T.cl_WeightDraft T.m_WeightDraft_pass_on G_WeightDraft_pass_on (hr.mono (by decide)) (b_WeightDraft_pass_on T) .nil pass0 (pa_cons (pv 2) (pa_cons (pe_ix ix_list (pe_fld (pv 0) rfl) (pv 2) (fun _ _ => rfl)) pa_nil))))))
    (pss_cons (ps_set (i := 3) sc_backward.nd rfl (.inl rfl) (pe_meth (pv 1) T.cl_WeightDraft T.m_WeightDraft_gather G_WeightDraft_gather (hr.mono (by decide)) (b_WeightDraft_gather T) .nil pass0 (pa_cons (pv 0) pa_nil)))
    (pss_one (ps_ret (pe_make T.mk_Program G_Program_init (hr.mono (by decide)) rfl T.g_Program (b_Program_init T) .nil pass0 (pa_cons (pe_op op_add (pe_fld (pv 0) rfl) (pe_callB call_len_seq (by rfl) T.f_len PySem.boot_len (pa_cons (pe_fld (pv 0) rfl) pa_nil))) (pa_cons (pe_fld (pv 1) rfl) (pa_cons (pv 3) pa_nil)))))))))), ?_⟩
  obtain ⟨pa, p, rfl, ⟨dp, pl, po, ps, hP⟩, ok, hm, k⟩ := h
  have m1 := hm.inputs
  have m2 := hm.code
  have m3 := hm.outs
  have zl : sizeLine = 16777216 := rfl
  -- draft = WeightDraft(program)
  refine ⟨_, rfl, fun x dx nx ndx ne => ?_⟩
  have s0 : Same H (upd (upd H dx (.own x)) x (.ins D.c_WeightDraft dx [])) := fun b o z => by
    rw [upd_ne (ne_of_none z nx), upd_ne (ne_of_none z ndx)]
    exact z
  refine ⟨x, dx, pa, p, rfl, upd_same, ⟨dp, pl, po, ps, hP.same s0⟩, by omega, fun H1 la ha b1 nla nha W => ⟨rfl, ?_⟩⟩
  have s1 : Same H H1 := fun b o z => b1 b o (s0 _ _ z) (ne_of_none z nx)
  have la0 := s0.free nla
  have ha0 := s0.free nha
  have N : Apart pl po la ha := ⟨ne_of_none hP.lst la0, ne_of_none hP.lst ha0, ne_of_none hP.outs la0, ne_of_none hP.outs ha0⟩
  -- draft.weigh_outs(program)
  refine ⟨_, rfl, x, dx, _, rfl, W.obj, rfl, _, rfl, ?_⟩
  refine ⟨x, pa, dx, la, ha, dp, pl, po, ps, _, p, rfl, W, hP.same s1, N, fun o ho => by simp only [List.length_map]; exact ok.outs o ho, by show p.code.length + 2 * p.outs.length + 2 ≤ 1000000; omega, fun H2 b2 W2 => ?_⟩
  obtain ⟨sl, sb⟩ := seeds_len p.outs p.inputs ⟨p.code, p.code.map fun _ => none⟩
  generalize hw1 : Work.seeds p.inputs p.outs ⟨p.code, p.code.map fun _ => none⟩ = w1 at W2 sl sb
  simp only [List.length_map] at sb
  have slc : w1.code.length ≤ p.code.length + 2 * p.outs.length := sl
  have s2 : Same H H2 := Same.but2_new s1 la0 ha0 b2
  -- the loop
  refine ⟨_, rfl, pa, _, dp, _, _, rfl, s2 _ _ hP.obj, T.cl_Program, T.n_Program_lines, lk_lines _ _ _, pl, _, rfl, .inl (SqL.of (s2 _ _ hP.lst)), _, _, rfl, rfl, _, rfl, _, rfl, _, _, _, _, rfl,
    RgC.neg (by simp; omega) (by simp [hP.lines.len]; omega) (by omega) (by omega), for_rangeC (lo := (((ps.map V.ref).length : Nat) : Int) - 1) (c := -1) (n := ((((ps.map V.ref).length : Nat) : Int) - 1 - -1).toNat)
    (fun i σ H' => ∃ (a b : Option V) (v : Work), σ = [some (.ref pa), some (.ref x), a, b] ∧ But2 H2 H' la ha ∧ WDraft D H' x dx la ha v ∧ v.bars.length = p.code.length ∧ v.code.length ≤ w1.code.length + 5 * i ∧ Work.backAll p.code p.code.length w1 = Work.backAll p.code (p.code.length - i) v)
    ⟨none, none, w1, rfl, fun b o z _ _ => z, W2, sb, by omega, rfl⟩ ?_ ?_⟩
  · rintro i σ H3 hi ⟨a, b, v, rfl, b3, W3, vb, vc, hg⟩
    rw [List.length_map, hP.lines.len] at hi
    have il : i < p.code.length := by omega
    have P3 := W2.prog N b3 (hP.same s2)
    have ix : (((ps.map V.ref).length : Nat) : Int) - 1 + (i : Nat) * (-1) = ((p.code.length - 1 - i : Nat) : Int) := by rw [List.length_map, hP.lines.len]; omega
    have hl := getD_some (c := p.code) (i := p.code.length - 1 - i) (by omega)
    obtain ⟨q, hq1, hq2⟩ := P3.lines.get hl
    refine ⟨_, rfl, x, dx, _, rfl, W3.obj, rfl, _, rfl, ?_⟩
    refine ⟨_, rfl, pa, _, dp, _, _, rfl, P3.obj, T.cl_Program, T.n_Program_lines, lk_lines _ _ _, _, rfl, pl, _, ((p.code.length - 1 - i : Nat) : Int), V.ref q, rfl, by rw [ix], SqL.of P3.lst, atI_nat (by rw [List.getElem?_map, hq1]; rfl), ?_⟩
    have okl := ok.code _ _ hl
    refine ⟨x, dx, la, ha, q, v, p.code.length - 1 - i, 0, _, by rw [ix]; rfl, W3, hq2, trivial, fun u hu => by have := okl.uses u hu; omega, by omega, by omega, fun H4 b4 W4 => ?_⟩
    obtain ⟨pl1, pl2⟩ := pass_len v (p.code.length - 1 - i) (p.code.getD (p.code.length - 1 - i) (.num Vagraa.zero))
    exact ⟨_, _, _, rfl, b3.trans b4, W4, pl2.trans vb, (by show (passLine v (p.code.length - 1 - i) (p.code.getD (p.code.length - 1 - i) (.num Vagraa.zero))).code.length ≤ _; omega), hg.trans (backAll_down p.code il v)⟩
  · rintro σ H3 ⟨a, b, v, rfl, b3, W3, vb, vc, hg⟩
    have en : ((((ps.map V.ref).length : Nat) : Int) - 1 - -1).toNat = p.code.length := by rw [List.length_map, hP.lines.len]; omega
    rw [en] at vc hg
    rw [Nat.sub_self] at hg
    have hg : Work.backAll p.code p.code.length w1 = v := hg
    have P3 := W2.prog N b3 (hP.same s2)
    have s3 : Same H H3 := Same.but2_new s2 la0 ha0 b3
    have hmul : p.inputs * (p.code.length + 1) ≤ 24 * 601 := Nat.mul_le_mul m1 (by omega)
    -- outs = draft.gather(program)
    refine ⟨_, rfl, x, dx, _, rfl, W3.obj, rfl, _, rfl, ?_⟩
    refine ⟨x, pa, dx, la, ha, dp, pl, po, ps, v, p, rfl, W3, P3, N, ok.code, vb, by omega, by omega, by omega, fun H4 q b4 nq W4 hq4 => ?_⟩
    have s4 : Same H H4 := Same.but_new s3 la0 b4
    have P4 := hP.same s4
    -- return Program(..)
    refine ⟨_, rfl, pa, _, dp, _, _, rfl, P4.obj, T.cl_Program, T.n_Program_inputs, lk_inputs _ _ _, _, rfl, pa, _, dp, _, _, rfl, P4.obj, T.cl_Program, T.n_Program_outs, lk_outs _ _ _, po, _, rfl, .inl (SqL.of P4.outs), _, _, rfl, rfl, ?_⟩
    refine ⟨_, rfl, x, _, dx, _, _, rfl, W4.obj, T.cl_WeightDraft, T.n_WeightDraft_lines, rfl, _, rfl, fun y dy ny ndy ne2 => ?_⟩
    have s5 : Same H4 (upd (upd H4 dy (.own y)) y (.ins D.c_Program dy [])) := fun b o z => by
      rw [upd_ne (ne_of_none z ny), upd_ne (ne_of_none z ndy)]
      exact z
    have e1 : ((p.inputs : Int) + (((p.outs.map natV).length : Nat) : Int)) = ((p.inputs + p.outs.length : Nat) : Int) := by simp
    refine ⟨y, dy, la, q, p.inputs + p.outs.length, ?_, upd_same, rfl, ?_⟩
    · rw [← e1]; rfl
    rw [upd_upd]
    have s6 : Same H4 (upd (upd H4 dy (.own y)) y (.ins D.c_Program dy (progF (p.inputs + p.outs.length) la q))) := fun b o z => by
      rw [upd_ne (ne_of_none z ny), upd_ne (ne_of_none z ndy)]
      exact z
    refine k _ y (s4.trans s6) (s4.free ny) ?_
    have eb : Vagrai.backward p = ⟨p.inputs + p.outs.length, (Work.gatherAll p.code (List.range p.inputs) v).2.code, (Work.gatherAll p.code (List.range p.inputs) v).1⟩ := by
      show (⟨p.inputs + p.outs.length, (Work.gatherAll p.code (List.range p.inputs) (Work.backAll p.code p.code.length (Work.seeds p.inputs p.outs ⟨p.code, p.code.map fun _ => none⟩))).2.code,
        (Work.gatherAll p.code (List.range p.inputs) (Work.backAll p.code p.code.length (Work.seeds p.inputs p.outs ⟨p.code, p.code.map fun _ => none⟩))).1⟩ : Prog) = _
      rw [hw1, hg]
    obtain ⟨qs, l1, l2⟩ := W4.lines
    rw [eb]
    exact ⟨dy, la, q, qs, upd_same, s6 _ _ l1, l2.keep fun c xs z => s6 _ _ z, s6 _ _ hq4⟩
end Lc
set_option Elab.async false
set_option linter.all false
set_option maxRecDepth 100000
set_option maxHeartbeats 4000000
namespace Lc
open PySem PySem.Spec PyProof.Rows L2
open Vagraa (Frac frac)
open VagraLine (Line)
open Vagrai (Prog Work)
variable {P : Program} {w : World} {K : PySem.W.Frag} {mg : Str → Option Value} {base : Heap} {D : Ad}
def cF (la ca : Addr) (n : Nat) : List (Str × V) := [("lines", .ref la), ("inputs", .int (n : Int)), ("changes", .ref ca)]
/-- a forward draft at d -/
structure CDraft (D : Ad) (H : Hp) (d dx la ca : Addr) (n : Nat) (ds : List (Option Nat)) (c : List Line) : Prop where
  obj : H d = some (.ins D.c_ChangeDraft dx (cF la ca n))
  lines : LinesAt H la c
  changes : H ca = some (.lst (ds.map optV))
  ne : la ≠ ca
section
variable {D : Ad} {H H' : Hp} {d dx la ca : Addr} {n : Nat} {ds : List (Option Nat)} {c : List Line}
theorem CDraft.same (W : CDraft D H d dx la ca n ds c) (e : Same H H') : CDraft D H' d dx la ca n ds c := ⟨e _ _ W.obj, W.lines.same e, e _ _ W.changes, W.ne⟩
theorem CDraft.lst (W : CDraft D H d dx la ca n ds c) : ∃ xs, H la = some (.lst xs) := by
  obtain ⟨ps, h, _⟩ := W.lines
  exact ⟨_, h⟩
theorem CDraft.put {l : Line} (W : CDraft D H d dx la ca n ds c) (k : But H H' la) (h : LinesAt H' la (c ++ [l])) : CDraft D H' d dx la ca n ds (c ++ [l]) := by
  obtain ⟨xs, hl⟩ := W.lst
  exact ⟨k _ _ W.obj (ne_of W.obj hl nofun), h, k _ _ W.changes W.ne.symm, W.ne⟩
theorem CDraft.more (W : CDraft D H d dx la ca n ds c) (x : Option Nat) : CDraft D (upd H ca (.lst ((ds ++ [x]).map optV))) d dx la ca n (ds ++ [x]) c := by
  obtain ⟨ps, hl, hp⟩ := W.lines
  exact ⟨(upd_ne (ne_of W.obj W.changes nofun)).trans W.obj, ⟨ps, (upd_ne W.ne).trans hl, hp.keep fun q xs z => (upd_ne (ne_of z W.changes nofun)).trans z⟩, upd_same, W.ne⟩
end
/-- what a method of the draft that puts lines hands back -/
def GiveC (D : Ad) (H : Hp) (Q : VK) (d dx la ca : Addr) (n : Nat) (ds : List (Option Nat)) (r : Option Nat × List Line) : Prop := ∀ H' : Hp, But H H' la → CDraft D H' d dx la ca n ds r.2 → Q (optV r.1) H'
theorem GiveC.later {D : Ad} {H H1 : Hp} {Q : VK} {d dx la ca : Addr} {n : Nat} {ds : List (Option Nat)} {r : Option Nat × List Line} (k : GiveC D H Q d dx la ca n ds r) (b : But H H1 la) : GiveC D H1 Q d dx la ca n ds r := fun H' b2 C => k H' (fun x o z y => b2 x o (b x o z y) y) C
theorem GiveC.as {D : Ad} {H : Hp} {Q : VK} {d dx la ca : Addr} {n : Nat} {ds : List (Option Nat)} {r r' : Option Nat × List Line} (k : GiveC D H Q d dx la ca n ds r) (e : r = r') : GiveC D H Q d dx la ca n ds r' := e ▸ k
def spCInit (D : Ad) : Sp := fun vs H Q _ => ∃ (x dx pa : Addr) (p : Prog), vs = [.ref x, .ref pa] ∧ H x = some (.ins D.c_ChangeDraft dx []) ∧ ProgAt D H pa p ∧
  ∀ (H' : Hp) (la ca : Addr), But H H' x → H la = none → H ca = none → CDraft D H' x dx la ca p.inputs [] p.code → Q .non H'
theorem ok_ChangeDraft_init (T : Txt K mg D) : FnOk P w K mg base CX0 2 D.a_ChangeDraft_init D.d_ChangeDraft_init P_ChangeDraft_init (spCInit D) := by
  have G_Draft_init := ok_Draft_init (P := P) (w := w) (base := base) T
  refine T.F_ChangeDraft_init.ok sc_ChangeDraft_init (fun vs H Q E h => by first | (obtain ⟨rfl, _⟩ := h; rfl) | (obtain ⟨_, rfl, _⟩ := h; rfl) | (obtain ⟨_, _, rfl, _⟩ := h; rfl) | (obtain ⟨_, _, _, rfl, _⟩ := h; rfl) | (obtain ⟨_, _, _, _, rfl, _⟩ := h; rfl) | (obtain ⟨_, _, _, _, _, rfl, _⟩ := h; rfl) | (obtain ⟨_, _, _, _, _, _, rfl, _⟩ := h; rfl) | (obtain ⟨_, _, _, _, _, _, _, rfl, _⟩ := h; rfl) | (obtain ⟨_, _, _, _, _, _, _, _, rfl, _⟩ := h; rfl) | (obtain ⟨_, _, _, _, _, _, _, _, _, rfl, _⟩ := h; rfl) | (obtain ⟨_, _, _, _, _, _, _, _, _, _, rfl, _⟩ := h; rfl) | (obtain ⟨_, _, _, _, _, _, _, _, _, _, _, rfl, _⟩ := h; rfl) | (obtain ⟨_, _, _, _, _, _, _, _, _, _, _, _, rfl, _⟩ := h; rfl)) (fun cdv A outer s H vs Q E hr h => ?_)
  refine ⟨_, (pss_cons (ps_expr (pe_clsfn G_Draft_init (hr.mono (by decide)) rfl T.g_Draft T.cf_Draft_init T.F_Draft_init.kp (b_Draft_init T) .nil pass0 (pa_cons (pv 0) (pa_cons (pv 1) pa_nil))))
    (pss_cons (ps_fld (pv 0) (pe_fld (pv 1) rfl) rfl)
    (pss_one (ps_fld (pv 0) (pe_lst pa_nil) rfl)))), ?_⟩
  obtain ⟨x, dx, pa, p, rfl, hx, ⟨dp, pl, po, ps, hP⟩, k⟩ := h
  refine ⟨_, rfl, _, rfl, D.c_ChangeDraft, x, dx, pa, p, rfl, T.cl_ChangeDraft, T.n_ChangeDraft_lines, hx, ⟨dp, pl, po, ps, hP⟩, fun H1 la b1 nla hx1 hl1 => ?_⟩
  have o1 := b1 _ _ hP.obj (ne_of hP.obj hx (by intro z; injection z with _ _ z; cases z))
  refine ⟨_, rfl, pa, _, dp, _, _, rfl, o1, T.cl_Program, T.n_Program_inputs, lk_inputs _ _ _, _, rfl, x, _, dx, _, rfl, hx1, T.cl_ChangeDraft, T.n_ChangeDraft_inputs, (by show 1 < 1000; decide), ?_⟩
  refine ⟨(by show 0 ≤ sizeLine; decide), fun ca hca => ?_⟩
  have hcx : ca ≠ x := fun z => by rw [z, upd_same] at hca; cases hca
  have hca1 : H1 ca = none := by rw [upd_ne hcx] at hca; exact hca
  have xc : x ≠ ca := hcx.symm
  refine ⟨_, rfl, x, _, dx, _, rfl, (upd_ne xc).trans upd_same, T.cl_ChangeDraft, T.n_ChangeDraft_changes, (by show 2 < 1000; decide), ?_⟩
  have nca : H ca = none := by
    cases z : H ca with
    | none => rfl
    | some o => rw [b1 _ _ z hcx] at hca1; cases hca1
  have xla : la ≠ x := fun z => by rw [z, hx] at nla; cases nla
  obtain ⟨qs, hq1, hq2⟩ := hl1
  have lc : la ≠ ca := ne_of_none hq1 hca1
  refine k _ la ca (fun b o z y => ?_) nla nca ⟨upd_same, ⟨qs, ?_, hq2.keep fun q xs z => ?_⟩, ?_, lc⟩
  · have z1 := b1 b o z y
    rw [upd_ne y, upd_ne (ne_of_none z1 hca1), upd_ne y]
    exact z1
  · rw [upd_ne xla, upd_ne lc, upd_ne xla]; exact hq1
  · rw [upd_ne (ne_of z hx1 nofun), upd_ne (ne_of_none z hca1), upd_ne (ne_of z hx1 nofun)]; exact z
  · rw [upd_ne hcx, upd_same]; rfl
def oppOf (a : Option Nat) (c : List Line) : Option Nat × List Line := match a with
  | none => (none, c)
  | some a => (some c.length, c ++ [.neg a])
def spOpp (D : Ad) : Sp := fun vs H Q _ => ∃ (d dx la ca : Addr) (n : Nat) (ds : List (Option Nat)) (c : List Line) (a : Option Nat), vs = [.ref d, optV a] ∧ CDraft D H d dx la ca n ds c ∧ c.length + 3 ≤ 1000000 ∧ GiveC D H Q d dx la ca n ds (oppOf a c)
theorem ok_ChangeDraft_opposite_of (T : Txt K mg D) : FnOk P w K mg base CX0 2 D.a_ChangeDraft_opposite_of D.d_ChangeDraft_opposite_of P_ChangeDraft_opposite_of (spOpp D) := by
  have G_Draft_put := ok_Draft_put (P := P) (w := w) (base := base) T
  obtain ⟨t_OPPOSITE, v_OPPOSITE⟩ := T.v_OPPOSITE
  refine T.F_ChangeDraft_opposite_of.ok sc_ChangeDraft_opposite_of (fun vs H Q E h => by first | (obtain ⟨rfl, _⟩ := h; rfl) | (obtain ⟨_, rfl, _⟩ := h; rfl) | (obtain ⟨_, _, rfl, _⟩ := h; rfl) | (obtain ⟨_, _, _, rfl, _⟩ := h; rfl) | (obtain ⟨_, _, _, _, rfl, _⟩ := h; rfl) | (obtain ⟨_, _, _, _, _, rfl, _⟩ := h; rfl) | (obtain ⟨_, _, _, _, _, _, rfl, _⟩ := h; rfl) | (obtain ⟨_, _, _, _, _, _, _, rfl, _⟩ := h; rfl) | (obtain ⟨_, _, _, _, _, _, _, _, rfl, _⟩ := h; rfl) | (obtain ⟨_, _, _, _, _, _, _, _, _, rfl, _⟩ := h; rfl) | (obtain ⟨_, _, _, _, _, _, _, _, _, _, rfl, _⟩ := h; rfl) | (obtain ⟨_, _, _, _, _, _, _, _, _, _, _, rfl, _⟩ := h; rfl) | (obtain ⟨_, _, _, _, _, _, _, _, _, _, _, _, rfl, _⟩ := h; rfl)) (fun cdv A outer s H vs Q E hr h => ?_)
  refine ⟨_, (pss_cons (ps_if (pt_cmpR op_isN (pv 1) pe_non (nomark _)) (pss_one (ps_ret pe_non)) pss_nil)
    (pss_one (ps_ret (pe_meth (pv 0) T.cl_ChangeDraft T.m_ChangeDraft_put G_Draft_put (hr.mono (by decide)) (b_Draft_put T) .nil pass0 (pa_cons (pe_tup (pa_cons (pe_glob (v := .int 6) rfl v_OPPOSITE ⟨_, rfl⟩) (pa_cons (pv 1) pa_nil))) pa_nil))))), ?_⟩
  obtain ⟨d, dx, la, ca, n, ds, c, a, rfl, W, hz, k⟩ := h
  have zl : sizeLine = 16777216 := rfl
  refine ⟨_, rfl, rfl, _, rfl, ?_⟩
  cases a with
  | none =>
    refine ifT rfl ?_
    exact k H (fun b o z _ => z) W
  | some a =>
    refine ifF rfl ?_
    refine ⟨_, rfl, d, dx, _, rfl, W.obj, rfl, _, rfl, (by show 2 ≤ sizeLine; decide), fun t ht => ?_⟩
    have s1 := same_upd (o := .tup [V.int 6, V.int (a : Int)]) ht
    refine ⟨d, t, D.c_ChangeDraft, dx, la, _, c, .neg a, rfl, T.cl_ChangeDraft, T.n_ChangeDraft_lines, (W.same s1).obj, rfl, (W.same s1).lines, upd_same, by omega, fun H1 b1 l1 => ?_⟩
    exact k H1 (Same.but s1 b1) ((W.same s1).put b1 l1)
def sumOf (a b : Option Nat) (c : List Line) : Option Nat × List Line := match a, b with
  | some a, some b => (some c.length, c ++ [.add a b])
  | some a, none => (some a, c)
  | none, b => (b, c)
def spTwoC (D : Ad) (f : Option Nat → Option Nat → List Line → Option Nat × List Line) : Sp := fun vs H Q _ => ∃ (d dx la ca : Addr) (n : Nat) (ds : List (Option Nat)) (c : List Line) (a b : Option Nat), vs = [.ref d, optV a, optV b] ∧ CDraft D H d dx la ca n ds c ∧ c.length + 3 ≤ 1000000 ∧
  GiveC D H Q d dx la ca n ds (f a b c)
theorem ok_ChangeDraft_change_of_sum (T : Txt K mg D) : FnOk P w K mg base CX0 2 D.a_ChangeDraft_change_of_sum D.d_ChangeDraft_change_of_sum P_ChangeDraft_change_of_sum (spTwoC D sumOf) := by
  have G_Draft_put := ok_Draft_put (P := P) (w := w) (base := base) T
  obtain ⟨t_SUM, v_SUM⟩ := T.v_SUM
  refine T.F_ChangeDraft_change_of_sum.ok sc_ChangeDraft_change_of_sum (fun vs H Q E h => by first | (obtain ⟨rfl, _⟩ := h; rfl) | (obtain ⟨_, rfl, _⟩ := h; rfl) | (obtain ⟨_, _, rfl, _⟩ := h; rfl) | (obtain ⟨_, _, _, rfl, _⟩ := h; rfl) | (obtain ⟨_, _, _, _, rfl, _⟩ := h; rfl) | (obtain ⟨_, _, _, _, _, rfl, _⟩ := h; rfl) | (obtain ⟨_, _, _, _, _, _, rfl, _⟩ := h; rfl) | (obtain ⟨_, _, _, _, _, _, _, rfl, _⟩ := h; rfl) | (obtain ⟨_, _, _, _, _, _, _, _, rfl, _⟩ := h; rfl) | (obtain ⟨_, _, _, _, _, _, _, _, _, rfl, _⟩ := h; rfl) | (obtain ⟨_, _, _, _, _, _, _, _, _, _, rfl, _⟩ := h; rfl) | (obtain ⟨_, _, _, _, _, _, _, _, _, _, _, rfl, _⟩ := h; rfl) | (obtain ⟨_, _, _, _, _, _, _, _, _, _, _, _, rfl, _⟩ := h; rfl)) (fun cdv A outer s H vs Q E hr h => ?_)
  refine ⟨_, (pss_cons (ps_if (pt_cmpR op_isN (pv 1) pe_non (nomark _)) (pss_one (ps_ret (pv 2))) pss_nil)
    (pss_cons (ps_if (pt_cmpR op_isN (pv 2) pe_non (nomark _)) (pss_one (ps_ret (pv 1))) pss_nil)
    (pss_one (ps_ret (pe_meth (pv 0) T.cl_ChangeDraft T.m_ChangeDraft_put G_Draft_put (hr.mono (by decide)) (b_Draft_put T) .nil pass0 (pa_cons (pe_tup (pa_cons (pe_glob (v := .int 2) rfl v_SUM ⟨_, rfl⟩) (pa_cons (pv 1) (pa_cons (pv 2) pa_nil)))) pa_nil)))))), ?_⟩
  obtain ⟨d, dx, la, ca, n, ds, c, a, b, rfl, W, hz, k⟩ := h
  have zl : sizeLine = 16777216 := rfl
  refine ⟨_, rfl, rfl, _, rfl, ?_⟩
  cases a with
  | none =>
    refine ifT rfl ?_
    exact ⟨_, rfl, k H (fun b o z _ => z) W⟩
  | some a =>
    refine ifF rfl ?_
    refine ⟨_, rfl, rfl, _, rfl, ?_⟩
    cases b with
    | none =>
      refine ifT rfl ?_
      exact ⟨_, rfl, k H (fun b o z _ => z) W⟩
    | some b =>
      refine ifF rfl ?_
      refine ⟨_, rfl, d, dx, _, rfl, W.obj, rfl, _, rfl, _, rfl, (by show 3 ≤ sizeLine; decide), fun t ht => ?_⟩
      have s1 := same_upd (o := .tup [V.int 2, V.int (a : Int), V.int (b : Int)]) ht
      refine ⟨d, t, D.c_ChangeDraft, dx, la, _, c, .add a b, rfl, T.cl_ChangeDraft, T.n_ChangeDraft_lines, (W.same s1).obj, rfl, (W.same s1).lines, upd_same, by omega, fun H1 b1 l1 => ?_⟩
      exact k H1 (Same.but s1 b1) ((W.same s1).put b1 l1)
def difOf (a b : Option Nat) (c : List Line) : Option Nat × List Line := match a, b with
  | a, none => (a, c)
  | none, some b => (some c.length, c ++ [.neg b])
  | some a, some b => (some c.length, c ++ [.sub a b])
theorem ok_ChangeDraft_change_of_difference (T : Txt K mg D) : FnOk P w K mg base CX0 3 D.a_ChangeDraft_change_of_difference D.d_ChangeDraft_change_of_difference P_ChangeDraft_change_of_difference (spTwoC D difOf) := by
  have G_ChangeDraft_opposite_of := ok_ChangeDraft_opposite_of (P := P) (w := w) (base := base) T
  have G_Draft_put := ok_Draft_put (P := P) (w := w) (base := base) T
  obtain ⟨t_DIFFERENCE, v_DIFFERENCE⟩ := T.v_DIFFERENCE
  refine T.F_ChangeDraft_change_of_difference.ok sc_ChangeDraft_change_of_difference (fun vs H Q E h => by first | (obtain ⟨rfl, _⟩ := h; rfl) | (obtain ⟨_, rfl, _⟩ := h; rfl) | (obtain ⟨_, _, rfl, _⟩ := h; rfl) | (obtain ⟨_, _, _, rfl, _⟩ := h; rfl) | (obtain ⟨_, _, _, _, rfl, _⟩ := h; rfl) | (obtain ⟨_, _, _, _, _, rfl, _⟩ := h; rfl) | (obtain ⟨_, _, _, _, _, _, rfl, _⟩ := h; rfl) | (obtain ⟨_, _, _, _, _, _, _, rfl, _⟩ := h; rfl) | (obtain ⟨_, _, _, _, _, _, _, _, rfl, _⟩ := h; rfl) | (obtain ⟨_, _, _, _, _, _, _, _, _, rfl, _⟩ := h; rfl) | (obtain ⟨_, _, _, _, _, _, _, _, _, _, rfl, _⟩ := h; rfl) | (obtain ⟨_, _, _, _, _, _, _, _, _, _, _, rfl, _⟩ := h; rfl) | (obtain ⟨_, _, _, _, _, _, _, _, _, _, _, _, rfl, _⟩ := h; rfl)) (fun cdv A outer s H vs Q E hr h => ?_)
  refine ⟨_, (pss_cons (ps_if (pt_cmpR op_isN (pv 2) pe_non (nomark _)) (pss_one (ps_ret (pv 1))) pss_nil)
    (pss_cons (ps_if (pt_cmpR op_isN (pv 1) pe_non (nomark _)) (pss_one (ps_ret (pe_meth (pv 0) T.cl_ChangeDraft T.m_ChangeDraft_opposite_of G_ChangeDraft_opposite_of (hr.mono (by decide)) (b_ChangeDraft_opposite_of T) .nil pass0 (pa_cons (pv 2) pa_nil)))) pss_nil)
    (pss_one (ps_ret (pe_meth (pv 0) T.cl_ChangeDraft T.m_ChangeDraft_put G_Draft_put (hr.mono (by decide)) (b_Draft_put T) .nil pass0 (pa_cons (pe_tup (pa_cons (pe_glob (v := .int 3) rfl v_DIFFERENCE ⟨_, rfl⟩) (pa_cons (pv 1) (pa_cons (pv 2) pa_nil)))) pa_nil)))))), ?_⟩
  obtain ⟨d, dx, la, ca, n, ds, c, a, b, rfl, W, hz, k⟩ := h
  have zl : sizeLine = 16777216 := rfl
  refine ⟨_, rfl, rfl, _, rfl, ?_⟩
  cases b with
  | none =>
    refine ifT rfl ?_
    refine ⟨_, rfl, ?_⟩
    cases a <;> exact k H (fun b o z _ => z) W
  | some b =>
    refine ifF rfl ?_
    refine ⟨_, rfl, rfl, _, rfl, ?_⟩
    cases a with
    | none =>
      refine ifT rfl ?_
      exact ⟨_, rfl, d, dx, _, rfl, W.obj, rfl, _, rfl, d, dx, la, ca, n, ds, c, some b, rfl, W, hz, k⟩
    | some a =>
      refine ifF rfl ?_
      refine ⟨_, rfl, d, dx, _, rfl, W.obj, rfl, _, rfl, _, rfl, (by show 3 ≤ sizeLine; decide), fun t ht => ?_⟩
      have s1 := same_upd (o := .tup [V.int 3, V.int (a : Int), V.int (b : Int)]) ht
      refine ⟨d, t, D.c_ChangeDraft, dx, la, _, c, .sub a b, rfl, T.cl_ChangeDraft, T.n_ChangeDraft_lines, (W.same s1).obj, rfl, (W.same s1).lines, upd_same, by omega, fun H1 b1 l1 => ?_⟩
      exact k H1 (Same.but s1 b1) ((W.same s1).put b1 l1)
def divOf (a : Option Nat) (m : Nat) (c : List Line) : Option Nat × List Line := match a with
  | none => (none, c)
  | some a => (some c.length, c ++ [.div a m])
def spDivided (D : Ad) : Sp := fun vs H Q _ => ∃ (d dx la ca : Addr) (n : Nat) (ds : List (Option Nat)) (c : List Line) (a : Option Nat) (m : Nat), vs = [.ref d, optV a, .int (m : Int)] ∧ CDraft D H d dx la ca n ds c ∧ c.length + 1 ≤ 1000000 ∧ GiveC D H Q d dx la ca n ds (divOf a m c)
theorem ok_ChangeDraft_divided (T : Txt K mg D) : FnOk P w K mg base CX0 2 D.a_ChangeDraft_divided D.d_ChangeDraft_divided P_ChangeDraft_divided (spDivided D) := by
  have G_Draft_put := ok_Draft_put (P := P) (w := w) (base := base) T
  obtain ⟨t_QUOTIENT, v_QUOTIENT⟩ := T.v_QUOTIENT
  refine T.F_ChangeDraft_divided.ok sc_ChangeDraft_divided (fun vs H Q E h => by first | (obtain ⟨rfl, _⟩ := h; rfl) | (obtain ⟨_, rfl, _⟩ := h; rfl) | (obtain ⟨_, _, rfl, _⟩ := h; rfl) | (obtain ⟨_, _, _, rfl, _⟩ := h; rfl) | (obtain ⟨_, _, _, _, rfl, _⟩ := h; rfl) | (obtain ⟨_, _, _, _, _, rfl, _⟩ := h; rfl) | (obtain ⟨_, _, _, _, _, _, rfl, _⟩ := h; rfl) | (obtain ⟨_, _, _, _, _, _, _, rfl, _⟩ := h; rfl) | (obtain ⟨_, _, _, _, _, _, _, _, rfl, _⟩ := h; rfl) | (obtain ⟨_, _, _, _, _, _, _, _, _, rfl, _⟩ := h; rfl) | (obtain ⟨_, _, _, _, _, _, _, _, _, _, rfl, _⟩ := h; rfl) | (obtain ⟨_, _, _, _, _, _, _, _, _, _, _, rfl, _⟩ := h; rfl) | (obtain ⟨_, _, _, _, _, _, _, _, _, _, _, _, rfl, _⟩ := h; rfl)) (fun cdv A outer s H vs Q E hr h => ?_)
  refine ⟨_, (pss_cons (ps_if (pt_cmpR op_isN (pv 1) pe_non (nomark _)) (pss_one (ps_ret pe_non)) pss_nil)
    (pss_one (ps_ret (pe_meth (pv 0) T.cl_ChangeDraft T.m_ChangeDraft_put G_Draft_put (hr.mono (by decide)) (b_Draft_put T) .nil pass0 (pa_cons (pe_tup (pa_cons (pe_glob (v := .int 5) rfl v_QUOTIENT ⟨_, rfl⟩) (pa_cons (pv 1) (pa_cons (pv 2) pa_nil)))) pa_nil))))), ?_⟩
  obtain ⟨d, dx, la, ca, n, ds, c, a, m, rfl, W, hz, k⟩ := h
  have zl : sizeLine = 16777216 := rfl
  refine ⟨_, rfl, rfl, _, rfl, ?_⟩
  cases a with
  | none =>
    refine ifT rfl ?_
    exact k H (fun b o z _ => z) W
  | some a =>
    refine ifF rfl ?_
    refine ⟨_, rfl, d, dx, _, rfl, W.obj, rfl, _, rfl, _, rfl, (by show 3 ≤ sizeLine; decide), fun t ht => ?_⟩
    have s1 := same_upd (o := .tup [V.int 5, V.int (a : Int), V.int (m : Int)]) ht
    refine ⟨d, t, D.c_ChangeDraft, dx, la, _, c, .div a m, rfl, T.cl_ChangeDraft, T.n_ChangeDraft_lines, (W.same s1).obj, rfl, (W.same s1).lines, upd_same, by omega, fun H1 b1 l1 => ?_⟩
    exact k H1 (Same.but s1 b1) ((W.same s1).put b1 l1)
def left_ (a : Option Nat) (m : Nat) (c : List Line) : Option Nat × List Line := match a with
  | none => (none, c)
  | some a => (some c.length, c ++ [.mul a m])
def right_ (j : Nat) (b : Option Nat) (c : List Line) : Option Nat × List Line := match b with
  | none => (none, c)
  | some b => (some c.length, c ++ [Line.mul j b])
def mulOf (j m : Nat) (a b : Option Nat) (c : List Line) : Option Nat × List Line := sumOf (left_ a m c).1 (right_ j b (left_ a m c).2).1 (right_ j b (left_ a m c).2).2
theorem mul_is_ (n v : Nat) (ds : List (Option Nat)) (c : List Line) (j m : Nat) : Vagrai.aheadLine n v ds c (.mul j m) = mulOf j m (ds.getD j none) (ds.getD m none) c := by
  unfold mulOf left_ right_ sumOf
  cases e1 : ds.getD j none <;> cases e2 : ds.getD m none <;> simp [Vagrai.aheadLine, e1, e2] <;> rw [← List.getD_eq_getElem?_getD, ← List.getD_eq_getElem?_getD, e1, e2]
theorem opt_get {ds : List (Option Nat)} {i : Nat} (h : i < ds.length) : (ds.map optV)[i]? = some (optV (ds.getD i none)) := by
  rw [List.getElem?_map, List.getD_eq_getElem?_getD, List.getElem?_eq_getElem h]
  rfl
def spMulC (D : Ad) : Sp := fun vs H Q _ => ∃ (d dx la ca : Addr) (n : Nat) (ds : List (Option Nat)) (c : List Line) (j m : Nat), vs = [.ref d, .int (j : Int), .int (m : Int)] ∧ CDraft D H d dx la ca n ds c ∧ c.length + 5 ≤ 1000000 ∧ j < ds.length ∧ m < ds.length ∧
  GiveC D H Q d dx la ca n ds (mulOf j m (ds.getD j none) (ds.getD m none) c)
theorem ok_ChangeDraft_change_of_product (T : Txt K mg D) : FnOk P w K mg base CX0 3 D.a_ChangeDraft_change_of_product D.d_ChangeDraft_change_of_product P_ChangeDraft_change_of_product (spMulC D) := by
  have G_Draft_put := ok_Draft_put (P := P) (w := w) (base := base) T
  have G_ChangeDraft_change_of_sum := ok_ChangeDraft_change_of_sum (P := P) (w := w) (base := base) T
  obtain ⟨t_PRODUCT, v_PRODUCT⟩ := T.v_PRODUCT
  refine T.F_ChangeDraft_change_of_product.ok sc_ChangeDraft_change_of_product (fun vs H Q E h => by first | (obtain ⟨rfl, _⟩ := h; rfl) | (obtain ⟨_, rfl, _⟩ := h; rfl) | (obtain ⟨_, _, rfl, _⟩ := h; rfl) | (obtain ⟨_, _, _, rfl, _⟩ := h; rfl) | (obtain ⟨_, _, _, _, rfl, _⟩ := h; rfl) | (obtain ⟨_, _, _, _, _, rfl, _⟩ := h; rfl) | (obtain ⟨_, _, _, _, _, _, rfl, _⟩ := h; rfl) | (obtain ⟨_, _, _, _, _, _, _, rfl, _⟩ := h; rfl) | (obtain ⟨_, _, _, _, _, _, _, _, rfl, _⟩ := h; rfl) | (obtain ⟨_, _, _, _, _, _, _, _, _, rfl, _⟩ := h; rfl) | (obtain ⟨_, _, _, _, _, _, _, _, _, _, rfl, _⟩ := h; rfl) | (obtain ⟨_, _, _, _, _, _, _, _, _, _, _, rfl, _⟩ := h; rfl) | (obtain ⟨_, _, _, _, _, _, _, _, _, _, _, _, rfl, _⟩ := h; rfl)) (fun cdv A outer s H vs Q E hr h => ?_)
  refine ⟨_, (pss_cons (ps_set (i := 3) sc_ChangeDraft_change_of_product.nd rfl (.inl rfl) (pe_ix ix_list (pe_fld (pv 0) rfl) (pv 1) (fun _ _ => rfl)))
    (pss_cons (ps_set (i := 4) sc_ChangeDraft_change_of_product.nd rfl (.inl rfl) (pe_ix ix_list (pe_fld (pv 0) rfl) (pv 2) (fun _ _ => rfl)))
    (pss_cons (ps_if (pt_cmpR op_notN (pv 3) pe_non (nomark _)) (pss_one (ps_set (i := 3) sc_ChangeDraft_change_of_product.nd rfl (.inl rfl) (pe_meth (pv 0) T.cl_ChangeDraft T.m_ChangeDraft_put G_Draft_put (hr.mono (by decide)) (b_Draft_put T) .nil pass0 (pa_cons (pe_tup (pa_cons (pe_glob (v := .int 4) rfl v_PRODUCT ⟨_, rfl⟩) (pa_cons (pv 3) (pa_cons (pv 2) pa_nil)))) pa_nil)))) pss_nil)
    (pss_cons (ps_if (pt_cmpR op_notN (pv 4) pe_non (nomark _)) (pss_one (ps_set (i := 4) sc_ChangeDraft_change_of_product.nd rfl (.inl rfl) (pe_meth (pv 0) T.cl_ChangeDraft T.m_ChangeDraft_put G_Draft_put (hr.mono (by decide)) (b_Draft_put T) .nil pass0 (pa_cons (pe_tup (pa_cons (pe_glob (v := .int 4) rfl v_PRODUCT ⟨_, rfl⟩) (pa_cons (pv 1) (pa_cons (pv 4) pa_nil)))) pa_nil)))) pss_nil)
    (pss_one (ps_ret (pe_meth (pv 0) T.cl_ChangeDraft T.m_ChangeDraft_change_of_sum G_ChangeDraft_change_of_sum (hr.mono (by decide)) (b_ChangeDraft_change_of_sum T) .nil pass0 (pa_cons (pv 3) (pa_cons (pv 4) pa_nil))))))))), ?_⟩
  obtain ⟨d, dx, la, ca, n, ds, c, j, m, rfl, W, hz, hj, hm, k⟩ := h
  have zl : sizeLine = 16777216 := rfl
  refine ⟨_, rfl, d, _, dx, _, _, rfl, W.obj, T.cl_ChangeDraft, T.n_ChangeDraft_changes, rfl, _, rfl, ca, _, (j : Int), _, rfl, rfl, SqL.of W.changes, atI_nat (opt_get hj), ?_⟩
  refine ⟨_, rfl, d, _, dx, _, _, rfl, W.obj, T.cl_ChangeDraft, T.n_ChangeDraft_changes, rfl, _, rfl, ca, _, (m : Int), _, rfl, rfl, SqL.of W.changes, atI_nat (opt_get hm), ?_⟩
  generalize ds.getD j none = a at k
  generalize ds.getD m none = b at k
  refine ⟨_, rfl, rfl, _, rfl, ?_⟩
  cases a with
  | none =>
    refine ifF rfl ?_
    refine ⟨_, rfl, rfl, _, rfl, ?_⟩
    cases b with
    | none =>
      refine ifF rfl ?_
      exact ⟨_, rfl, d, dx, _, rfl, W.obj, rfl, _, rfl, _, rfl, d, dx, la, ca, n, ds, c, none, none, rfl, W, by omega, k⟩
    | some b =>
      refine ifT rfl ?_
      refine ⟨_, rfl, d, dx, _, rfl, W.obj, rfl, _, rfl, _, rfl, (by show 3 ≤ sizeLine; decide), fun t ht => ?_⟩
      have s2 := same_upd (o := .tup [V.int 4, V.int (j : Int), V.int (b : Int)]) ht
      refine ⟨d, t, D.c_ChangeDraft, dx, la, _, c, .mul j b, rfl, T.cl_ChangeDraft, T.n_ChangeDraft_lines, (W.same s2).obj, rfl, (W.same s2).lines, upd_same, by omega, fun H3 b3 l3 => ?_⟩
      have W3 := (W.same s2).put b3 l3
      exact ⟨_, rfl, d, dx, _, rfl, W3.obj, rfl, _, rfl, _, rfl, d, dx, la, ca, n, ds, c ++ [Line.mul j b], none, some (c).length, rfl, W3, by simp; omega, GiveC.later k (Same.but s2 b3)⟩
  | some a =>
    refine ifT rfl ?_
    refine ⟨_, rfl, d, dx, _, rfl, W.obj, rfl, _, rfl, _, rfl, (by show 3 ≤ sizeLine; decide), fun t ht => ?_⟩
    have s1 := same_upd (o := .tup [V.int 4, V.int (a : Int), V.int (m : Int)]) ht
    refine ⟨d, t, D.c_ChangeDraft, dx, la, _, c, .mul a m, rfl, T.cl_ChangeDraft, T.n_ChangeDraft_lines, (W.same s1).obj, rfl, (W.same s1).lines, upd_same, by omega, fun H2 b2 l2 => ?_⟩
    have W2 := (W.same s1).put b2 l2
    have k2 := GiveC.later k (Same.but s1 b2)
    refine ⟨_, rfl, rfl, _, rfl, ?_⟩
    cases b with
    | none =>
      refine ifF rfl ?_
      exact ⟨_, rfl, d, dx, _, rfl, W2.obj, rfl, _, rfl, _, rfl, d, dx, la, ca, n, ds, (c ++ [Line.mul a m]), (some c.length), none, rfl, W2, by simp; omega, k2⟩
    | some b =>
      refine ifT rfl ?_
      refine ⟨_, rfl, d, dx, _, rfl, W2.obj, rfl, _, rfl, _, rfl, (by show 3 ≤ sizeLine; decide), fun t ht => ?_⟩
      have s2 := same_upd (o := .tup [V.int 4, V.int (j : Int), V.int (b : Int)]) ht
      refine ⟨d, t, D.c_ChangeDraft, dx, la, _, (c ++ [Line.mul a m]), .mul j b, rfl, T.cl_ChangeDraft, T.n_ChangeDraft_lines, (W2.same s2).obj, rfl, (W2.same s2).lines, upd_same, by simp; omega, fun H3 b3 l3 => ?_⟩
      have W3 := (W2.same s2).put b3 l3
      exact ⟨_, rfl, d, dx, _, rfl, W3.obj, rfl, _, rfl, _, rfl, d, dx, la, ca, n, ds, (c ++ [Line.mul a m]) ++ [Line.mul j b], (some c.length), some ((c ++ [Line.mul a m])).length, rfl, W3, by simp; omega, GiveC.later k2 (Same.but s2 b3)⟩
def quoOf (v j m : Nat) (a b : Option Nat) (c : List Line) : Option Nat × List Line :=
  let r := right_ v b c
  match a with
  | none => let q := divOf r.1 m r.2; oppOf q.1 q.2
  | some a => let q := difOf (some a) r.1 r.2; divOf q.1 m q.2
theorem quo_is_ (n v : Nat) (ds : List (Option Nat)) (c : List Line) (j m : Nat) : Vagrai.aheadLine n v ds c (.div j m) = quoOf v j m (ds.getD j none) (ds.getD m none) c := by
  unfold quoOf right_ divOf oppOf difOf
  cases e1 : ds.getD j none <;> cases e2 : ds.getD m none <;> simp [Vagrai.aheadLine, e1, e2] <;> rw [← List.getD_eq_getElem?_getD, ← List.getD_eq_getElem?_getD, e1, e2] <;> simp
theorem oppOf_len (a : Option Nat) (c : List Line) : (oppOf a c).2.length ≤ c.length + 1 := by cases a <;> simp [oppOf]
theorem divOf_len (a : Option Nat) (m : Nat) (c : List Line) : (divOf a m c).2.length ≤ c.length + 1 := by cases a <;> simp [divOf]
theorem difOf_len (a b : Option Nat) (c : List Line) : (difOf a b c).2.length ≤ c.length + 1 := by cases a <;> cases b <;> simp [difOf]
def spQuoC (D : Ad) : Sp := fun vs H Q _ => ∃ (d dx la ca : Addr) (n : Nat) (ds : List (Option Nat)) (c : List Line) (v j m : Nat), vs = [.ref d, .int (v : Int), .int (j : Int), .int (m : Int)] ∧ CDraft D H d dx la ca n ds c ∧ c.length + 7 ≤ 1000000 ∧ j < ds.length ∧ m < ds.length ∧
  GiveC D H Q d dx la ca n ds (quoOf v j m (ds.getD j none) (ds.getD m none) c)
theorem ok_ChangeDraft_change_of_quotient (T : Txt K mg D) : FnOk P w K mg base CX0 4 D.a_ChangeDraft_change_of_quotient D.d_ChangeDraft_change_of_quotient P_ChangeDraft_change_of_quotient (spQuoC D) := by
  have G_Draft_put := ok_Draft_put (P := P) (w := w) (base := base) T
  have G_ChangeDraft_opposite_of := ok_ChangeDraft_opposite_of (P := P) (w := w) (base := base) T
  have G_ChangeDraft_divided := ok_ChangeDraft_divided (P := P) (w := w) (base := base) T
  have G_ChangeDraft_change_of_difference := ok_ChangeDraft_change_of_difference (P := P) (w := w) (base := base) T
  obtain ⟨t_PRODUCT, v_PRODUCT⟩ := T.v_PRODUCT
  refine T.F_ChangeDraft_change_of_quotient.ok sc_ChangeDraft_change_of_quotient (fun vs H Q E h => by first | (obtain ⟨rfl, _⟩ := h; rfl) | (obtain ⟨_, rfl, _⟩ := h; rfl) | (obtain ⟨_, _, rfl, _⟩ := h; rfl) | (obtain ⟨_, _, _, rfl, _⟩ := h; rfl) | (obtain ⟨_, _, _, _, rfl, _⟩ := h; rfl) | (obtain ⟨_, _, _, _, _, rfl, _⟩ := h; rfl) | (obtain ⟨_, _, _, _, _, _, rfl, _⟩ := h; rfl) | (obtain ⟨_, _, _, _, _, _, _, rfl, _⟩ := h; rfl) | (obtain ⟨_, _, _, _, _, _, _, _, rfl, _⟩ := h; rfl) | (obtain ⟨_, _, _, _, _, _, _, _, _, rfl, _⟩ := h; rfl) | (obtain ⟨_, _, _, _, _, _, _, _, _, _, rfl, _⟩ := h; rfl) | (obtain ⟨_, _, _, _, _, _, _, _, _, _, _, rfl, _⟩ := h; rfl) | (obtain ⟨_, _, _, _, _, _, _, _, _, _, _, _, rfl, _⟩ := h; rfl)) (fun cdv A outer s H vs Q E hr h => ?_)
  refine ⟨_, (pss_cons (ps_set (i := 4) sc_ChangeDraft_change_of_quotient.nd rfl (.inl rfl) (pe_ix ix_list (pe_fld (pv 0) rfl) (pv 2) (fun _ _ => rfl)))
    (pss_cons (ps_set (i := 5) sc_ChangeDraft_change_of_quotient.nd rfl (.inl rfl) (pe_ix ix_list (pe_fld (pv 0) rfl) (pv 3) (fun _ _ => rfl)))
    (pss_cons (ps_if (pt_cmpR op_notN (pv 5) pe_non (nomark _)) (pss_one (ps_set (i := 5) sc_ChangeDraft_change_of_quotient.nd rfl (.inl rfl) (pe_meth (pv 0) T.cl_ChangeDraft T.m_ChangeDraft_put G_Draft_put (hr.mono (by decide)) (b_Draft_put T) .nil pass0 (pa_cons (pe_tup (pa_cons (pe_glob (v := .int 4) rfl v_PRODUCT ⟨_, rfl⟩) (pa_cons (pv 1) (pa_cons (pv 5) pa_nil)))) pa_nil)))) pss_nil)
    (pss_cons (ps_if (pt_cmpR op_isN (pv 4) pe_non (nomark _)) (pss_one (ps_ret (pe_meth (pv 0) T.cl_ChangeDraft T.m_ChangeDraft_opposite_of G_ChangeDraft_opposite_of (hr.mono (by decide)) (b_ChangeDraft_opposite_of T) .nil pass0 (pa_cons (pe_meth (pv 0) T.cl_ChangeDraft T.m_ChangeDraft_divided G_ChangeDraft_divided (hr.mono (by decide)) (b_ChangeDraft_divided T) .nil pass0 (pa_cons (pv 5) (pa_cons (pv 3) pa_nil))) pa_nil)))) pss_nil)
    (pss_one (ps_ret (pe_meth (pv 0) T.cl_ChangeDraft T.m_ChangeDraft_divided G_ChangeDraft_divided (hr.mono (by decide)) (b_ChangeDraft_divided T) .nil pass0 (pa_cons (pe_meth (pv 0) T.cl_ChangeDraft T.m_ChangeDraft_change_of_difference G_ChangeDraft_change_of_difference (hr.mono (by decide)) (b_ChangeDraft_change_of_difference T) .nil pass0 (pa_cons (pv 4) (pa_cons (pv 5) pa_nil))) (pa_cons (pv 3) pa_nil))))))))), ?_⟩
  obtain ⟨d, dx, la, ca, n, ds, c, v, j, m, rfl, W, hz, hj, hm, k⟩ := h
  have zl : sizeLine = 16777216 := rfl
  refine ⟨_, rfl, d, _, dx, _, _, rfl, W.obj, T.cl_ChangeDraft, T.n_ChangeDraft_changes, rfl, _, rfl, ca, _, (j : Int), _, rfl, rfl, SqL.of W.changes, atI_nat (opt_get hj), ?_⟩
  refine ⟨_, rfl, d, _, dx, _, _, rfl, W.obj, T.cl_ChangeDraft, T.n_ChangeDraft_changes, rfl, _, rfl, ca, _, (m : Int), _, rfl, rfl, SqL.of W.changes, atI_nat (opt_get hm), ?_⟩
  generalize ds.getD j none = a at k
  generalize ds.getD m none = b at k
  unfold quoOf at k
  refine ⟨_, rfl, rfl, _, rfl, ?_⟩
  cases b with
  | none =>
    refine ifF rfl ?_
    refine ⟨_, rfl, rfl, _, rfl, ?_⟩
    cases a with
    | none =>
      refine ifT rfl ?_
      refine ⟨_, rfl, d, dx, _, rfl, W.obj, rfl, ?_⟩
      refine ⟨_, rfl, d, dx, _, rfl, W.obj, rfl, _, rfl, _, rfl, ?_⟩
      refine ⟨d, dx, la, ca, n, ds, c, none, m, rfl, W, by omega, fun H1 b1 W1 => ?_⟩
      exact ⟨d, dx, la, ca, n, ds, c, none, rfl, W1, by omega, GiveC.later k b1⟩
    | some a =>
      refine ifF rfl ?_
      refine ⟨_, rfl, d, dx, _, rfl, W.obj, rfl, ?_⟩
      refine ⟨_, rfl, d, dx, _, rfl, W.obj, rfl, _, rfl, _, rfl, ?_⟩
      refine ⟨d, dx, la, ca, n, ds, c, some a, none, rfl, W, by omega, fun H1 b1 W1 => ?_⟩
      exact ⟨_, rfl, d, dx, la, ca, n, ds, c, some a, m, rfl, W1, by omega, GiveC.later k b1⟩
  | some b =>
    refine ifT rfl ?_
    refine ⟨_, rfl, d, dx, _, rfl, W.obj, rfl, _, rfl, _, rfl, (by show 3 ≤ sizeLine; decide), fun t ht => ?_⟩
    have s1 := same_upd (o := .tup [V.int 4, V.int (v : Int), V.int (b : Int)]) ht
    refine ⟨d, t, D.c_ChangeDraft, dx, la, _, c, .mul v b, rfl, T.cl_ChangeDraft, T.n_ChangeDraft_lines, (W.same s1).obj, rfl, (W.same s1).lines, upd_same, by omega, fun H2 b2 l2 => ?_⟩
    have W2 := (W.same s1).put b2 l2
    have k2 := GiveC.later k (Same.but s1 b2)
    have hl : (c ++ [Line.mul v b]).length = c.length + 1 := by simp
    refine ⟨_, rfl, rfl, _, rfl, ?_⟩
    cases a with
    | none =>
      refine ifT rfl ?_
      refine ⟨_, rfl, d, dx, _, rfl, W2.obj, rfl, ?_⟩
      refine ⟨_, rfl, d, dx, _, rfl, W2.obj, rfl, _, rfl, _, rfl, ?_⟩
      refine ⟨d, dx, la, ca, n, ds, c ++ [Line.mul v b], some c.length, m, rfl, W2, by omega, fun H3 b3 W3 => ?_⟩
      have h2 := divOf_len (some c.length) m (c ++ [Line.mul v b])
      exact ⟨d, dx, la, ca, n, ds, _, (divOf (some c.length) m (c ++ [Line.mul v b])).1, rfl, W3, by omega, GiveC.later k2 b3⟩
    | some a =>
      refine ifF rfl ?_
      refine ⟨_, rfl, d, dx, _, rfl, W2.obj, rfl, ?_⟩
      refine ⟨_, rfl, d, dx, _, rfl, W2.obj, rfl, _, rfl, _, rfl, ?_⟩
      refine ⟨d, dx, la, ca, n, ds, c ++ [Line.mul v b], some a, some c.length, rfl, W2, by omega, fun H3 b3 W3 => ?_⟩
      have h2 := difOf_len (some a) (some c.length) (c ++ [Line.mul v b])
      exact ⟨_, rfl, d, dx, la, ca, n, ds, _, (difOf (some a) (some c.length) (c ++ [Line.mul v b])).1, m, rfl, W3, by omega, GiveC.later k2 b3⟩
theorem add_is_ (n v : Nat) (ds : List (Option Nat)) (c : List Line) (j m : Nat) : Vagrai.aheadLine n v ds c (.add j m) = sumOf (ds.getD j none) (ds.getD m none) c := by
  unfold sumOf
  cases e1 : ds.getD j none <;> cases e2 : ds.getD m none <;> simp only [Vagrai.aheadLine, e1, e2]
theorem sub_is_ (n v : Nat) (ds : List (Option Nat)) (c : List Line) (j m : Nat) : Vagrai.aheadLine n v ds c (.sub j m) = difOf (ds.getD j none) (ds.getD m none) c := by
  unfold difOf
  cases e1 : ds.getD j none <;> cases e2 : ds.getD m none <;> simp only [Vagrai.aheadLine, e1, e2]
theorem neg_is_ (n v : Nat) (ds : List (Option Nat)) (c : List Line) (j : Nat) : Vagrai.aheadLine n v ds c (.neg j) = oppOf (ds.getD j none) c := by
  unfold oppOf
  cases e1 : ds.getD j none <;> simp only [Vagrai.aheadLine, e1]
def spPutC (D : Ad) : Sp := fun vs H Q _ => ∃ (d dx la ca p : Addr) (n : Nat) (ds : List (Option Nat)) (c : List Line) (l : Line), vs = [.ref d, .int (ds.length : Int), .ref p] ∧ CDraft D H d dx la ca n ds c ∧ H p = some (.tup (lineV l)) ∧ c.length + 7 ≤ 1000000 ∧ ds.length < 1000000 ∧ (∀ u ∈ l.uses, u < ds.length) ∧
  ∀ H' : Hp, But2 H H' la ca → CDraft D H' d dx la ca n (ds ++ [(Vagrai.aheadLine n ds.length ds c l).1]) (Vagrai.aheadLine n ds.length ds c l).2 → Q .non H'
theorem ok_ChangeDraft_put_change (T : Txt K mg D) : FnOk P w K mg base CX0 5 D.a_ChangeDraft_put_change D.d_ChangeDraft_put_change P_ChangeDraft_put_change (spPutC D) := by
  have G_Draft_put := ok_Draft_put (P := P) (w := w) (base := base) T
  have G_ChangeDraft_change_of_sum := ok_ChangeDraft_change_of_sum (P := P) (w := w) (base := base) T
  have G_ChangeDraft_change_of_difference := ok_ChangeDraft_change_of_difference (P := P) (w := w) (base := base) T
  have G_ChangeDraft_change_of_product := ok_ChangeDraft_change_of_product (P := P) (w := w) (base := base) T
  have G_ChangeDraft_change_of_quotient := ok_ChangeDraft_change_of_quotient (P := P) (w := w) (base := base) T
  have G_ChangeDraft_opposite_of := ok_ChangeDraft_opposite_of (P := P) (w := w) (base := base) T
  obtain ⟨t_INPUT, v_INPUT⟩ := T.v_INPUT
  obtain ⟨t_CONSTANT, v_CONSTANT⟩ := T.v_CONSTANT
  obtain ⟨t_SUM, v_SUM⟩ := T.v_SUM
  obtain ⟨t_DIFFERENCE, v_DIFFERENCE⟩ := T.v_DIFFERENCE
  obtain ⟨t_PRODUCT, v_PRODUCT⟩ := T.v_PRODUCT
  obtain ⟨t_QUOTIENT, v_QUOTIENT⟩ := T.v_QUOTIENT
  refine T.F_ChangeDraft_put_change.ok sc_ChangeDraft_put_change (fun vs H Q E h => by first | (obtain ⟨rfl, _⟩ := h; rfl) | (obtain ⟨_, rfl, _⟩ := h; rfl) | (obtain ⟨_, _, rfl, _⟩ := h; rfl) | (obtain ⟨_, _, _, rfl, _⟩ := h; rfl) | (obtain ⟨_, _, _, _, rfl, _⟩ := h; rfl) | (obtain ⟨_, _, _, _, _, rfl, _⟩ := h; rfl) | (obtain ⟨_, _, _, _, _, _, rfl, _⟩ := h; rfl) | (obtain ⟨_, _, _, _, _, _, _, rfl, _⟩ := h; rfl) | (obtain ⟨_, _, _, _, _, _, _, _, rfl, _⟩ := h; rfl) | (obtain ⟨_, _, _, _, _, _, _, _, _, rfl, _⟩ := h; rfl) | (obtain ⟨_, _, _, _, _, _, _, _, _, _, rfl, _⟩ := h; rfl) | (obtain ⟨_, _, _, _, _, _, _, _, _, _, _, rfl, _⟩ := h; rfl) | (obtain ⟨_, _, _, _, _, _, _, _, _, _, _, _, rfl, _⟩ := h; rfl)) (fun cdv A outer s H vs Q E hr h => ?_)
  refine ⟨_, (pss_cons (ps_set (i := 3) sc_ChangeDraft_put_change.nd rfl (.inl rfl) (pe_ix ix_tup (pv 2) pe_int (fun _ _ => rfl)))
    (pss_cons (ps_if (pt_cmpR op_eq (pv 3) (pe_glob (v := .int 0) rfl v_INPUT ⟨_, rfl⟩) (nomark _)) (pss_one (ps_set (i := 4) sc_ChangeDraft_put_change.nd rfl (.inl rfl) (pe_meth (pv 0) T.cl_ChangeDraft T.m_ChangeDraft_put G_Draft_put (hr.mono (by decide)) (b_Draft_put T) .nil pass0 (pa_cons (pe_tup (pa_cons (pe_glob (v := .int 0) rfl v_INPUT ⟨_, rfl⟩) (pa_cons (pe_op op_add (pe_fld (pv 0) rfl) (pe_ix ix_tup (pv 2) pe_int (fun _ _ => rfl))) pa_nil))) pa_nil)))) (pss_one (ps_if (pt_cmpR op_eq (pv 3) (pe_glob (v := .int 1) rfl v_CONSTANT ⟨_, rfl⟩) (nomark _)) (pss_one (ps_set (i := 4) sc_ChangeDraft_put_change.nd rfl (.inl rfl) pe_non)) (pss_one (ps_if (pt_cmpR op_eq (pv 3) (pe_glob (v := .int 2) rfl v_SUM ⟨_, rfl⟩) (nomark _)) (pss_one (ps_set (i := 4) sc_ChangeDraft_put_change.nd rfl (.inl rfl) (pe_meth (pv 0) T.cl_ChangeDraft T.m_ChangeDraft_change_of_sum G_ChangeDraft_change_of_sum (hr.mono (by decide)) (b_ChangeDraft_change_of_sum T) .nil pass0 (pa_cons (pe_ix ix_list (pe_fld (pv 0) rfl) (pe_ix ix_tup (pv 2) pe_int (fun _ _ => rfl)) (fun _ _ => rfl)) (pa_cons (pe_ix ix_list (pe_fld (pv 0) rfl) (pe_ix ix_tup (pv 2) pe_int (fun _ _ => rfl)) (fun _ _ => rfl)) pa_nil))))) (pss_one (ps_if (pt_cmpR op_eq (pv 3) (pe_glob (v := .int 3) rfl v_DIFFERENCE ⟨_, rfl⟩) (nomark _)) (pss_one (ps_set (i := 4) sc_ChangeDraft_put_change.nd rfl (.inl rfl) (pe_meth (pv 0) T.cl_ChangeDraft T.m_ChangeDraft_change_of_difference G_ChangeDraft_change_of_difference (hr.mono (by decide)) (b_ChangeDraft_change_of_difference T) .nil pass0 (pa_cons (pe_ix ix_list (pe_fld (pv 0) rfl) (pe_ix ix_tup (pv 2) pe_int (fun _ _ => rfl)) (fun _ _ => rfl)) (pa_cons (pe_ix ix_list (pe_fld (pv 0) rfl) (pe_ix ix_tup (pv 2) pe_int (fun _ _ => rfl)) (fun _ _ => rfl)) pa_nil))))) (pss_one (ps_if (pt_cmpR op_eq (pv 3) (pe_glob (v := .int 4) rfl v_PRODUCT ⟨_, rfl⟩) (nomark _)) (pss_one (ps_set (i := 4) sc_ChangeDraft_put_change.nd rfl (.inl rfl) (pe_meth (pv 0) T.cl_ChangeDraft T.m_ChangeDraft_change_of_product G_ChangeDraft_change_of_product (hr.mono (by decide)) (b_ChangeDraft_change_of_product T) .nil pass0 (pa_cons (pe_ix ix_tup (pv 2) pe_int (fun _ _ => rfl)) (pa_cons (pe_ix ix_tup (pv 2) pe_int (fun _ _ => rfl)) pa_nil))))) (pss_one (ps_if (pt_cmpR op_eq (pv 3) (pe_glob (v := .int 5) rfl v_QUOTIENT ⟨_, rfl⟩) (nomark _)) (pss_one (ps_set (i := 4) sc_ChangeDraft_put_change.nd rfl (.inl rfl) (pe_meth (pv 0) T.cl_ChangeDraft T.m_ChangeDraft_change_of_quotient G_ChangeDraft_change_of_quotient (hr.mono (by decide)) (b_ChangeDraft_change_of_quotient T) .nil pass0 (pa_cons (pv 1) (pa_cons (pe_ix ix_tup (pv 2) pe_int (fun _ _ => rfl)) (pa_cons (pe_ix ix_tup (pv 2) pe_int (fun _ _ => rfl)) pa_nil)))))) (pss_one (ps_set (i := 4) sc_ChangeDraft_put_change.nd rfl (.inl rfl) (pe_meth (pv 0) T.cl_ChangeDraft T.m_ChangeDraft_opposite_of G_ChangeDraft_opposite_of (hr.mono (by decide)) (b_ChangeDraft_opposite_of T) .nil pass0 (pa_cons (pe_ix ix_list (pe_fld (pv 0) rfl) (pe_ix ix_tup (pv 2) pe_int (fun _ _ => rfl)) (fun _ _ => rfl)) pa_nil)))))))))))))))
    (pss_one (ps_expr (pe_bm PySem.F.plainAttrs_list PySem.F.slot_list_append PySem.F.type_list_append mt_append (pe_fld (pv 0) rfl) (pa_cons (pv 4) pa_nil)))))), ?_⟩
  obtain ⟨d, dx, la, ca, p, n, ds, c, l, rfl, W, hp, hz, hd, hu, k⟩ := h
  have zl : sizeLine = 16777216 := rfl
  -- the end: self.changes.append(change)
  have fin : ∀ (r : Option Nat × List Line), r = Vagrai.aheadLine n ds.length ds c l → ∀ H1 : Hp, But H H1 la → CDraft D H1 d dx la ca n ds r.2 → ∀ (kd : Option V), tDrop (tBM K "list" rAppend (tFld K (tVar 0) "changes") (tCons (tVar 4) tNil)) { nx := fun _ H' => Q .non H', rt := Q } [some (.ref d), some (.int (ds.length : Int)), some (.ref p), kd, some (optV r.1)] H1 := fun r e H1 b1 W1 kd => by
    refine ⟨_, rfl, d, _, dx, _, _, rfl, W1.obj, T.cl_ChangeDraft, T.n_ChangeDraft_changes, rfl, .inl ⟨rfl, _, SqL.of W1.changes⟩, _, rfl, ca, _, _, rfl, rfl, W1.changes, by rw [List.length_map]; omega, ?_⟩
    have ee : ds.map optV ++ [optV r.1] = (ds ++ [r.1]).map optV := by simp
    rw [ee]
    refine k _ (fun b o z y1 y2 => by rw [upd_ne y2]; exact b1 b o z y1) ?_
    rw [← e]
    exact W1.more r.1
  refine ⟨_, rfl, _, _, _, _, rfl, rfl, SqT.of hp, atI_nat (lineV_kind l), ?_⟩
  cases l with
  | input i =>
    refine ⟨_, rfl, rfl, _, rfl, ?_⟩
    refine ifT rfl ?_
    refine ⟨_, rfl, d, dx, _, rfl, W.obj, rfl, ?_⟩
    refine ⟨_, rfl, d, _, dx, _, _, rfl, W.obj, T.cl_ChangeDraft, T.n_ChangeDraft_inputs, rfl, _, rfl, _, _, _, _, rfl, rfl, SqT.of hp, rfl, _, _, rfl, rfl, (by show 2 ≤ sizeLine; decide), fun t ht => ?_⟩
    have s1 := same_upd (o := .tup [V.int 0, V.int ((n : Int) + (i : Int))]) ht
    refine ⟨d, t, D.c_ChangeDraft, dx, la, _, c, .input (n + i), rfl, T.cl_ChangeDraft, T.n_ChangeDraft_lines, (W.same s1).obj, rfl, (W.same s1).lines, upd_same, by omega, fun H1 b1 l1 => ?_⟩
    exact fin (some c.length, c ++ [Line.input (n + i)]) (by simp only [Vagrai.aheadLine]) H1 (Same.but s1 b1) ((W.same s1).put b1 l1) _
  | num a =>
    refine ⟨_, rfl, rfl, _, rfl, ?_⟩
    refine ifF rfl ?_
    refine ⟨_, rfl, rfl, _, rfl, ?_⟩
    refine ifT rfl ?_
    exact fin (none, c) (by simp only [Vagrai.aheadLine]) H (fun b o z _ => z) W _
  | add j m =>
    have uj : j < ds.length := hu j (by simp [VagraLine.Line.uses])
    have um : m < ds.length := hu m (by simp [VagraLine.Line.uses])
    refine ⟨_, rfl, rfl, _, rfl, ?_⟩
    refine ifF rfl ?_
    refine ⟨_, rfl, rfl, _, rfl, ?_⟩
    refine ifF rfl ?_
    refine ⟨_, rfl, rfl, _, rfl, ?_⟩
    refine ifT rfl ?_
    refine ⟨_, rfl, d, dx, _, rfl, W.obj, rfl, ?_⟩
    refine ⟨_, rfl, d, _, dx, _, _, rfl, W.obj, T.cl_ChangeDraft, T.n_ChangeDraft_changes, rfl, _, rfl, _, _, _, _, rfl, rfl, SqT.of hp, rfl, ca, _, (j : Int), _, rfl, rfl, SqL.of W.changes, atI_nat (opt_get uj), ?_⟩
    refine ⟨_, rfl, d, _, dx, _, _, rfl, W.obj, T.cl_ChangeDraft, T.n_ChangeDraft_changes, rfl, _, rfl, _, _, _, _, rfl, rfl, SqT.of hp, rfl, ca, _, (m : Int), _, rfl, rfl, SqL.of W.changes, atI_nat (opt_get um), ?_⟩
    exact ⟨d, dx, la, ca, n, ds, c, _, _, rfl, W, by omega, fun H1 b1 W1 => fin _ (add_is_ n ds.length ds c j m).symm H1 b1 W1 _⟩
  | sub j m =>
    have uj : j < ds.length := hu j (by simp [VagraLine.Line.uses])
    have um : m < ds.length := hu m (by simp [VagraLine.Line.uses])
    refine ⟨_, rfl, rfl, _, rfl, ?_⟩
    refine ifF rfl ?_
    refine ⟨_, rfl, rfl, _, rfl, ?_⟩
    refine ifF rfl ?_
    refine ⟨_, rfl, rfl, _, rfl, ?_⟩
    refine ifF rfl ?_
    refine ⟨_, rfl, rfl, _, rfl, ?_⟩
    refine ifT rfl ?_
    refine ⟨_, rfl, d, dx, _, rfl, W.obj, rfl, ?_⟩
    refine ⟨_, rfl, d, _, dx, _, _, rfl, W.obj, T.cl_ChangeDraft, T.n_ChangeDraft_changes, rfl, _, rfl, _, _, _, _, rfl, rfl, SqT.of hp, rfl, ca, _, (j : Int), _, rfl, rfl, SqL.of W.changes, atI_nat (opt_get uj), ?_⟩
    refine ⟨_, rfl, d, _, dx, _, _, rfl, W.obj, T.cl_ChangeDraft, T.n_ChangeDraft_changes, rfl, _, rfl, _, _, _, _, rfl, rfl, SqT.of hp, rfl, ca, _, (m : Int), _, rfl, rfl, SqL.of W.changes, atI_nat (opt_get um), ?_⟩
    exact ⟨d, dx, la, ca, n, ds, c, _, _, rfl, W, by omega, fun H1 b1 W1 => fin _ (sub_is_ n ds.length ds c j m).symm H1 b1 W1 _⟩
  | mul j m =>
    have uj : j < ds.length := hu j (by simp [VagraLine.Line.uses])
    have um : m < ds.length := hu m (by simp [VagraLine.Line.uses])
    refine ⟨_, rfl, rfl, _, rfl, ?_⟩
    refine ifF rfl ?_
    refine ⟨_, rfl, rfl, _, rfl, ?_⟩
    refine ifF rfl ?_
    refine ⟨_, rfl, rfl, _, rfl, ?_⟩
    refine ifF rfl ?_
    refine ⟨_, rfl, rfl, _, rfl, ?_⟩
    refine ifF rfl ?_
    refine ⟨_, rfl, rfl, _, rfl, ?_⟩
    refine ifT rfl ?_
    refine ⟨_, rfl, d, dx, _, rfl, W.obj, rfl, _, rfl, _, _, _, _, rfl, rfl, SqT.of hp, rfl, _, rfl, _, _, _, _, rfl, rfl, SqT.of hp, rfl, ?_⟩
    exact ⟨d, dx, la, ca, n, ds, c, j, m, rfl, W, by omega, uj, um, fun H1 b1 W1 => fin _ (mul_is_ n ds.length ds c j m).symm H1 b1 W1 _⟩
  | div j m =>
    have uj : j < ds.length := hu j (by simp [VagraLine.Line.uses])
    have um : m < ds.length := hu m (by simp [VagraLine.Line.uses])
    refine ⟨_, rfl, rfl, _, rfl, ?_⟩
    refine ifF rfl ?_
    refine ⟨_, rfl, rfl, _, rfl, ?_⟩
    refine ifF rfl ?_
    refine ⟨_, rfl, rfl, _, rfl, ?_⟩
    refine ifF rfl ?_
    refine ⟨_, rfl, rfl, _, rfl, ?_⟩
    refine ifF rfl ?_
    refine ⟨_, rfl, rfl, _, rfl, ?_⟩
    refine ifF rfl ?_
    refine ⟨_, rfl, rfl, _, rfl, ?_⟩
    refine ifT rfl ?_
    refine ⟨_, rfl, d, dx, _, rfl, W.obj, rfl, _, rfl, _, rfl, _, _, _, _, rfl, rfl, SqT.of hp, rfl, _, rfl, _, _, _, _, rfl, rfl, SqT.of hp, rfl, ?_⟩
    exact ⟨d, dx, la, ca, n, ds, c, ds.length, j, m, rfl, W, by omega, uj, um, fun H1 b1 W1 => fin _ (quo_is_ n ds.length ds c j m).symm H1 b1 W1 _⟩
  | neg j =>
    have uj : j < ds.length := hu j (by simp [VagraLine.Line.uses])
    refine ⟨_, rfl, rfl, _, rfl, ?_⟩
    refine ifF rfl ?_
    refine ⟨_, rfl, rfl, _, rfl, ?_⟩
    refine ifF rfl ?_
    refine ⟨_, rfl, rfl, _, rfl, ?_⟩
    refine ifF rfl ?_
    refine ⟨_, rfl, rfl, _, rfl, ?_⟩
    refine ifF rfl ?_
    refine ⟨_, rfl, rfl, _, rfl, ?_⟩
    refine ifF rfl ?_
    refine ⟨_, rfl, rfl, _, rfl, ?_⟩
    refine ifF rfl ?_
    refine ⟨_, rfl, d, dx, _, rfl, W.obj, rfl, ?_⟩
    refine ⟨_, rfl, d, _, dx, _, _, rfl, W.obj, T.cl_ChangeDraft, T.n_ChangeDraft_changes, rfl, _, rfl, _, _, _, _, rfl, rfl, SqT.of hp, rfl, ca, _, (j : Int), _, rfl, rfl, SqL.of W.changes, atI_nat (opt_get uj), ?_⟩
    exact ⟨d, dx, la, ca, n, ds, c, _, rfl, W, by omega, fun H1 b1 W1 => fin _ (neg_is_ n ds.length ds c j).symm H1 b1 W1 _⟩
def spPutOut (D : Ad) : Sp := fun vs H Q _ => ∃ (d dx la ca : Addr) (n : Nat) (ds : List (Option Nat)) (c : List Line) (o : Nat), vs = [.ref d, .int (o : Int)] ∧ CDraft D H d dx la ca n ds c ∧ c.length + 1 ≤ 1000000 ∧ o < ds.length ∧
  ∀ H' : Hp, But H H' la → CDraft D H' d dx la ca n ds (outPut ds o c).2 → Q (.int ((outPut ds o c).1 : Int)) H'
theorem ok_ChangeDraft_put_out (T : Txt K mg D) : FnOk P w K mg base CX0 2 D.a_ChangeDraft_put_out D.d_ChangeDraft_put_out P_ChangeDraft_put_out (spPutOut D) := by
  have G_Draft_put := ok_Draft_put (P := P) (w := w) (base := base) T
  obtain ⟨t_CONSTANT, v_CONSTANT⟩ := T.v_CONSTANT
  refine T.F_ChangeDraft_put_out.ok sc_ChangeDraft_put_out (fun vs H Q E h => by first | (obtain ⟨rfl, _⟩ := h; rfl) | (obtain ⟨_, rfl, _⟩ := h; rfl) | (obtain ⟨_, _, rfl, _⟩ := h; rfl) | (obtain ⟨_, _, _, rfl, _⟩ := h; rfl) | (obtain ⟨_, _, _, _, rfl, _⟩ := h; rfl) | (obtain ⟨_, _, _, _, _, rfl, _⟩ := h; rfl) | (obtain ⟨_, _, _, _, _, _, rfl, _⟩ := h; rfl) | (obtain ⟨_, _, _, _, _, _, _, rfl, _⟩ := h; rfl) | (obtain ⟨_, _, _, _, _, _, _, _, rfl, _⟩ := h; rfl) | (obtain ⟨_, _, _, _, _, _, _, _, _, rfl, _⟩ := h; rfl) | (obtain ⟨_, _, _, _, _, _, _, _, _, _, rfl, _⟩ := h; rfl) | (obtain ⟨_, _, _, _, _, _, _, _, _, _, _, rfl, _⟩ := h; rfl) | (obtain ⟨_, _, _, _, _, _, _, _, _, _, _, _, rfl, _⟩ := h; rfl)) (fun cdv A outer s H vs Q E hr h => ?_)
  refine ⟨_, (pss_cons (ps_if (pt_cmpR op_isN (pe_ix ix_list (pe_fld (pv 0) rfl) (pv 1) (fun _ _ => rfl)) pe_non (nomark _)) (pss_one (ps_ret (pe_meth (pv 0) T.cl_ChangeDraft T.m_ChangeDraft_put G_Draft_put (hr.mono (by decide)) (b_Draft_put T) .nil pass0 (pa_cons (pe_tup (pa_cons (pe_glob (v := .int 1) rfl v_CONSTANT ⟨_, rfl⟩) (pa_cons pe_int (pa_cons pe_int pa_nil)))) pa_nil)))) pss_nil)
    (pss_one (ps_ret (pe_ix ix_list (pe_fld (pv 0) rfl) (pv 1) (fun _ _ => rfl))))), ?_⟩
  obtain ⟨d, dx, la, ca, n, ds, c, o, rfl, W, hz, ho, k⟩ := h
  have zl : sizeLine = 16777216 := rfl
  unfold outPut at k
  refine ⟨_, rfl, d, _, dx, _, _, rfl, W.obj, T.cl_ChangeDraft, T.n_ChangeDraft_changes, rfl, _, rfl, ca, _, (o : Int), _, rfl, rfl, SqL.of W.changes, atI_nat (opt_get ho), rfl, _, rfl, ?_⟩
  cases e : ds.getD o none with
  | none =>
    rw [e] at k
    refine ifT rfl ?_
    refine ⟨_, rfl, d, dx, _, rfl, W.obj, rfl, (by show 3 ≤ sizeLine; decide), fun t ht => ?_⟩
    have s1 := same_upd (o := .tup [V.int 1, V.int 0, V.int 1]) ht
    refine ⟨d, t, D.c_ChangeDraft, dx, la, _, c, .num Vagraa.zero, rfl, T.cl_ChangeDraft, T.n_ChangeDraft_lines, (W.same s1).obj, rfl, (W.same s1).lines, upd_same, by omega, fun H1 b1 l1 => ?_⟩
    exact k H1 (Same.but s1 b1) ((W.same s1).put b1 l1)
  | some a =>
    rw [e] at k
    refine ifF rfl ?_
    refine ⟨_, rfl, d, _, dx, _, _, rfl, W.obj, T.cl_ChangeDraft, T.n_ChangeDraft_changes, rfl, _, rfl, ca, _, (o : Int), _, rfl, rfl, SqL.of W.changes, atI_nat (opt_get ho), ?_⟩
    rw [e]
    exact k H (fun b o z _ => z) W
end Lc
set_option Elab.async false
set_option linter.all false
set_option maxRecDepth 100000
set_option maxHeartbeats 4000000
namespace Lc
open PySem PySem.Spec PyProof.Rows L2
open Vagraa (Frac frac)
open VagraLine (Line)
open Vagrai (Prog Work)
variable {P : Program} {w : World} {K : PySem.W.Frag} {mg : Str → Option Value} {base : Heap} {D : Ad}
theorem CDraft.prog {D : Ad} {H H' : Hp} {d dx la ca pa dp pl po : Addr} {n : Nat} {ds : List (Option Nat)} {c : List Line} {ps : List Addr} {p : Prog} (W : CDraft D H d dx la ca n ds c) (N : Apart pl po la ca) (k : But2 H H' la ca) (h : ProgL D H pa dp pl po ps p) : ProgL D H' pa dp pl po ps p := by
  obtain ⟨xs, hl⟩ := W.lst
  exact h.but2 hl W.changes N.a N.b N.c N.d k
theorem aheadLine_len (n v : Nat) (ds : List (Option Nat)) (c : List Line) (l : Line) : (Vagrai.aheadLine n v ds c l).2.length ≤ c.length + 3 := by
  cases l with
  | input k => simp [Vagrai.aheadLine]
  | num a => simp [Vagrai.aheadLine]
  | add i j => cases e1 : ds.getD i none <;> cases e2 : ds.getD j none <;> simp only [Vagrai.aheadLine, e1, e2] <;> simp
  | sub i j => cases e1 : ds.getD i none <;> cases e2 : ds.getD j none <;> simp only [Vagrai.aheadLine, e1, e2] <;> simp
  | mul i j => cases e1 : ds.getD i none <;> cases e2 : ds.getD j none <;> simp only [Vagrai.aheadLine, e1, e2] <;> simp
  | div i j => cases e1 : ds.getD i none <;> cases e2 : ds.getD j none <;> simp only [Vagrai.aheadLine, e1, e2] <;> simp
  | neg i => cases e1 : ds.getD i none <;> simp only [Vagrai.aheadLine, e1] <;> simp
theorem ok_forward (T : Txt K mg D) : FnOk P w K mg base CX0 6 D.a_forward D.d_forward P_forward (spMadeP D Vagrai.forward) := by
  have G_ChangeDraft_init := ok_ChangeDraft_init (P := P) (w := w) (base := base) T
  have G_ChangeDraft_put_change := ok_ChangeDraft_put_change (P := P) (w := w) (base := base) T
  have G_ChangeDraft_put_out := ok_ChangeDraft_put_out (P := P) (w := w) (base := base) T
  have G_Program_init := ok_Program_init (P := P) (w := w) (base := base) T
  refine T.F_forward.ok sc_forward (fun vs H Q E h => by first | (obtain ⟨rfl, _⟩ := h; rfl) | (obtain ⟨_, rfl, _⟩ := h; rfl) | (obtain ⟨_, _, rfl, _⟩ := h; rfl) | (obtain ⟨_, _, _, rfl, _⟩ := h; rfl) | (obtain ⟨_, _, _, _, rfl, _⟩ := h; rfl) | (obtain ⟨_, _, _, _, _, rfl, _⟩ := h; rfl) | (obtain ⟨_, _, _, _, _, _, rfl, _⟩ := h; rfl) | (obtain ⟨_, _, _, _, _, _, _, rfl, _⟩ := h; rfl) | (obtain ⟨_, _, _, _, _, _, _, _, rfl, _⟩ := h; rfl) | (obtain ⟨_, _, _, _, _, _, _, _, _, rfl, _⟩ := h; rfl) | (obtain ⟨_, _, _, _, _, _, _, _, _, _, rfl, _⟩ := h; rfl) | (obtain ⟨_, _, _, _, _, _, _, _, _, _, _, rfl, _⟩ := h; rfl) | (obtain ⟨_, _, _, _, _, _, _, _, _, _, _, _, rfl, _⟩ := h; rfl)) (fun cdv A outer s H vs Q E hr h => ?_)
  refine ⟨_, (pss_cons (ps_set (i := 1) sc_forward.nd rfl (.inr rfl) (pe_make T.mk_ChangeDraft G_ChangeDraft_init (hr.mono (by decide)) rfl T.g_ChangeDraft (b_ChangeDraft_init T) .nil pass0 (pa_cons (pv 0) pa_nil)))
    (pss_cons (ps_for PassesOwn.never rfl (pi_enum (by rfl) T.f_enumerate (pa_cons (pe_fld (pv 0) rfl) pa_nil)) (pg_tup rfl (pgs_cons (pg_name (i := 2) sc_forward.nd rfl (Or.inl rfl)) (pgs_cons (pg_name (i := 3) sc_forward.nd rfl (Or.inl rfl)) pgs_nil))) (pss_one (ps_expr (pe_meth (pv 1) T.cl_ChangeDraft T.m_ChangeDraft_put_change G_ChangeDraft_put_change (hr.mono (by decide)) (b_ChangeDraft_put_change T) .nil pass0 (pa_cons (pv 2) (pa_cons (pv 3) pa_nil))))))
    (pss_cons (ps_setLc (i := 4) (own := [("out", 5)]) (g := gName 5) (tt := tYes) rfl sc_forward.nd rfl rfl (sw_true rfl rfl rfl (by decide +kernel)) (pi_list (pe_fld (pv 0) rfl)) (blkOk_by (own := [("out", 5)]) (N := N_forward) (sc := defScope s_forward) (by decide +kernel)) (fun _ _ _ _ _ => pg_name (i := 5) sc_forward.nd rfl (Or.inl rfl)) (fun _ _ _ _ _ => pts_nil) (fun _ _ _ _ _ => (pe_meth (pv 1) T.cl_ChangeDraft T.m_ChangeDraft_put_out G_ChangeDraft_put_out (hr.mono (by decide)) (b_ChangeDraft_put_out T) .nil pass0 (pa_cons (pv 5) pa_nil))))
    (pss_one (ps_ret (pe_make T.mk_Program G_Program_init (hr.mono (by decide)) rfl T.g_Program (b_Program_init T) .nil pass0 (pa_cons (pe_op op_mulW pe_int (pe_fld (pv 0) rfl)) (pa_cons (pe_fld (pv 1) rfl) (pa_cons (pv 4) pa_nil))))))))), ?_⟩
  obtain ⟨pa, p, rfl, ⟨dp, pl, po, ps, hP⟩, ok, hm, k⟩ := h
  have m1 := hm.inputs
  have m2 := hm.code
  have m3 := hm.outs
  have zl : sizeLine = 16777216 := rfl
  -- draft = ChangeDraft(program)
  refine ⟨_, rfl, fun x dx nx ndx ne => ?_⟩
  have s0 : Same H (upd (upd H dx (.own x)) x (.ins D.c_ChangeDraft dx [])) := fun b o z => by
    rw [upd_ne (ne_of_none z nx), upd_ne (ne_of_none z ndx)]
    exact z
  refine ⟨x, dx, pa, p, rfl, upd_same, ⟨dp, pl, po, ps, hP.same s0⟩, fun H1 la ca b1 nla nca W => ⟨rfl, ?_⟩⟩
  have s1 : Same H H1 := fun b o z => b1 b o (s0 _ _ z) (ne_of_none z nx)
  have la0 := s0.free nla
  have ca0 := s0.free nca
  have N : Apart pl po la ca := ⟨ne_of_none hP.lst la0, ne_of_none hP.lst ca0, ne_of_none hP.outs la0, ne_of_none hP.outs ca0⟩
  -- the loop
  refine ⟨_, rfl, pa, _, dp, _, _, rfl, s1 _ _ hP.obj, T.cl_Program, T.n_Program_lines, lk_lines _ _ _, pl, _, rfl, SqL.of (s1 _ _ hP.lst), for_enum (K := K) (a := pl) (xs := ps.map V.ref)
    (fun i σ H' => ∃ (a b u v : Option V) (ds : List (Option Nat)) (c : List Line), σ = [some (.ref pa), some (.ref x), a, b, u, v] ∧ But2 H1 H' la ca ∧ CDraft D H' x dx la ca p.inputs ds c ∧ ds.length = i ∧ c.length ≤ p.code.length + 3 * i ∧
      Vagrai.aheadFrom p.inputs [] p.code p.code = Vagrai.aheadFrom p.inputs ds c (p.code.drop i))
    ⟨none, none, none, none, [], p.code, rfl, fun b o z _ _ => z, W, rfl, by omega, rfl⟩ (fun i σ H' _ ⟨_, _, _, _, _, _, _, b, _⟩ => SqL.of (W.prog N b (hP.same s1)).lst) ?_ ?_⟩
  · rintro i y σ H2 t hi ⟨a, b, u, v, ds, c, rfl, b2, W2, hd, hc, hg⟩ nt
    rw [List.getElem?_map] at hi
    cases hp : ps[i]? with
    | none => rw [hp] at hi; cases hi
    | some q =>
      rw [hp] at hi
      obtain rfl : V.ref q = y := Option.some.inj hi
      obtain ⟨l, hl, hq⟩ := hP.lines.get' hp
      obtain ⟨il, el⟩ := List.getElem?_eq_some_iff.mp hl
      have st := same_upd (o := .tup [V.int (i : Nat), V.ref q]) nt
      have W3 := W2.same st
      have P2 := W.prog N b2 (hP.same s1)
      have hq3 := st _ _ (P2.lines.at_ i q l hp hl)
      refine ⟨t, _, rfl, SqT.of upd_same, rfl, _, _, rfl, _, _, rfl, rfl, ?_⟩
      refine ⟨_, rfl, x, dx, _, rfl, W3.obj, rfl, _, rfl, _, rfl, ?_⟩
      have okl := ok.code i l hl
      refine ⟨x, dx, la, ca, q, p.inputs, ds, c, l, by rw [hd]; rfl, W3, hq3, by omega, by omega, fun w hw => by rw [hd]; exact okl.uses w hw, fun H4 b4 W4 => ?_⟩
      have ll := aheadLine_len p.inputs ds.length ds c l
      refine ⟨_, _, _, _, _, _, rfl, b2.trans ((Same.but2 st).trans b4), W4, by simp [hd], by omega, ?_⟩
      rw [hg, List.drop_eq_getElem_cons il, el]
      rfl
  · rintro σ H2 ⟨a, b, u, v, ds, c, rfl, b2, W2, hd, hc, hg⟩
    rw [List.length_map, hP.lines.len] at hd hc hg
    rw [List.drop_length] at hg
    have hg : Vagrai.aheadFrom p.inputs [] p.code p.code = (ds, c) := hg
    have P2 := W.prog N b2 (hP.same s1)
    have s2 : Same H H2 := Same.but2_new s1 la0 ca0 b2
    -- outs = [draft.put_out(out) for out in program.outs]
    refine ⟨_, rfl, pa, _, dp, _, _, rfl, P2.obj, T.cl_Program, T.n_Program_outs, lk_outs _ _ _, po, rfl, ⟨_, SqL.of P2.outs⟩, fun R hR => lc_list (K := K) (a := po) (xs := p.outs.map natV)
      (fun i H' => ∃ (acc : List Nat) (c' : List Line), But H2 H' la ∧ H' R = some (.lst (acc.map natV)) ∧ CDraft D H' x dx la ca p.inputs ds c' ∧ acc.length = i ∧ c'.length ≤ c.length + i ∧
        Vagrai.aheadOuts ds p.outs c = (acc ++ (Vagrai.aheadOuts ds (p.outs.drop i) c').1, (Vagrai.aheadOuts ds (p.outs.drop i) c').2))
      ⟨[], c, fun b o z _ => same_upd hR _ _ z, upd_same, W2.same (same_upd hR), rfl, by omega, rfl⟩ (fun i H' _ ⟨_, _, b, _⟩ => SqL.of (b _ _ P2.outs N.c)) (fun i y H3 hi e => ?_) (fun H3 e => ?_)⟩
    · obtain ⟨acc, c', b3, r3, W3, al, cl, ho⟩ := e
      have Rla : R ≠ la := by
        obtain ⟨xs, z⟩ := W2.lst
        exact (ne_of_none z hR).symm
      rw [List.getElem?_map] at hi
      cases hp : p.outs[i]? with
      | none => rw [hp] at hi; cases hi
      | some o =>
        rw [hp] at hi
        obtain rfl : natV o = y := Option.some.inj hi
        obtain ⟨il, eo⟩ := List.getElem?_eq_some_iff.mp hp
        refine ⟨rfl, ?_⟩
        refine ⟨_, rfl, x, dx, _, rfl, W3.obj, rfl, _, rfl, ?_⟩
        refine ⟨x, dx, la, ca, p.inputs, ds, c', o, rfl, W3, by omega, by rw [hd]; exact ok.outs o (List.mem_of_getElem? hp), fun H4 b4 W4 => ?_⟩
        have r4 := b4 _ _ r3 Rla
        have ol : (outPut ds o c').2.length ≤ c'.length + 1 := by unfold outPut; split <;> simp
        have Rca : ca ≠ R := ne_of_none W2.changes hR
        refine ⟨_, r4, by simp; omega, acc ++ [(outPut ds o c').1], (outPut ds o c').2, fun b o z hb => ?_, by rw [upd_same, List.map_append]; rfl, ?_, by simp [al], by omega, ?_⟩
        · rw [upd_ne (ne_of_none z hR)]
          exact b4 _ _ (b3 _ _ z hb) hb
        · obtain ⟨qs, hq1, hq2⟩ := W4.lines
          exact ⟨(upd_ne (ne_of W4.obj r4 nofun)).trans W4.obj, ⟨qs, (upd_ne Rla.symm).trans hq1, hq2.keep fun q xs z => (upd_ne (ne_of z r4 nofun)).trans z⟩, (upd_ne Rca).trans W4.changes, W4.ne⟩
        · rw [ho, List.drop_eq_getElem_cons il, eo, aheadOuts_cons]
          simp
    · obtain ⟨acc, c', b3, r3, W3, al, cl, ho⟩ := e
      rw [List.length_map, List.drop_length] at ho
      have ho : Vagrai.aheadOuts ds p.outs c = (acc, c') := by rw [ho]; simp [Vagrai.aheadOuts]
      have s3 : Same H H3 := Same.but_new s2 la0 b3
      have P3 := hP.same s3
      -- return Program(..)
      refine ⟨_, rfl, pa, _, dp, _, _, rfl, P3.obj, T.cl_Program, T.n_Program_inputs, lk_inputs _ _ _, _, _, rfl, rfl, wide_mul (a := 8) (b := 8) (by decide) (by rw [Int.natAbs_natCast]; omega) (by decide) (by decide) (by decide), ?_⟩
      refine ⟨_, rfl, x, _, dx, _, _, rfl, W3.obj, T.cl_ChangeDraft, T.n_ChangeDraft_lines, rfl, _, rfl, fun y dy ny ndy ne2 => ?_⟩
      have e1 : ((2 : Int) * (p.inputs : Int)) = ((2 * p.inputs : Nat) : Int) := by simp
      refine ⟨y, dy, la, R, 2 * p.inputs, ?_, upd_same, rfl, ?_⟩
      · rw [← e1]; rfl
      rw [upd_upd]
      have s6 : Same H3 (upd (upd H3 dy (.own y)) y (.ins D.c_Program dy (progF (2 * p.inputs) la R))) := fun b o z => by
        rw [upd_ne (ne_of_none z ny), upd_ne (ne_of_none z ndy)]
        exact z
      refine k _ y (s3.trans s6) (s3.free ny) ?_
      have eb : Vagrai.forward p = ⟨2 * p.inputs, c', acc⟩ := by
        show (⟨2 * p.inputs, (Vagrai.aheadOuts (Vagrai.aheadFrom p.inputs [] p.code p.code).1 p.outs (Vagrai.aheadFrom p.inputs [] p.code p.code).2).2, (Vagrai.aheadOuts (Vagrai.aheadFrom p.inputs [] p.code p.code).1 p.outs (Vagrai.aheadFrom p.inputs [] p.code p.code).2).1⟩ : Prog) = _
        rw [hg, ho]
      obtain ⟨qs, l1, l2⟩ := W3.lines
      rw [eb]
      exact ⟨dy, la, R, qs, upd_same, s6 _ _ l1, l2.keep fun c xs z => s6 _ _ z, s6 _ _ r3⟩
end Lc
set_option Elab.async false
set_option linter.all false
set_option maxRecDepth 100000
set_option maxHeartbeats 4000000
namespace Lc
open PySem PySem.Spec PyProof.Rows L2
open Vagraa (Frac frac)
open VagraLine (Line)
open Vagrai (Prog Work)
variable {P : Program} {w : World} {K : PySem.W.Frag} {mg : Str → Option Value} {base : Heap} {D : Ad}
theorem map_range_set (L o : Nat) (f : Nat → Bool) (h : o < L) : (((List.range L).map f).map V.bl).set o (.bl true) = ((List.range L).map fun j => f j || decide (j = o)).map V.bl := by
  apply List.ext_getElem?
  intro j
  by_cases e : o = j
  · subst e
    rw [List.getElem?_set_self (by simpa using h)]
    simp [List.getElem?_range h]
  · rw [List.getElem?_set_ne e]
    simp only [List.getElem?_map]
    cases q : (List.range L)[j]? with
    | none => rfl
    | some x =>
      have hj : j < L := by simpa using (List.getElem?_eq_some_iff.mp q).1
      rw [List.getElem?_range hj] at q
      cases q
      simp [Ne.symm e]
theorem contains_take {l : List Nat} {i o : Nat} (h : l[i]? = some o) (j : Nat) : (l.take (i + 1)).contains j = ((l.take i).contains j || decide (j = o)) := by
  rw [take_snoc h]
  simp [List.contains_eq_any_beq, List.any_append]
theorem bl_set (ns : List Bool) (u : Nat) : (ns.map V.bl).set u (.bl true) = (ns.set u true).map V.bl := by rw [List.map_set]
theorem needed_down (c : List Line) {L t : Nat} (h : t < L) (ns : List Bool) : Vagrai.neededFrom c (L - t) ns = Vagrai.neededFrom c (L - (t + 1)) (needStep c (L - 1 - t) ns) := by
  have e : L - t = (L - (t + 1)) + 1 := by omega
  have e2 : L - 1 - t = L - (t + 1) := by omega
  rw [e, neededFrom_succ, e2]
def spNeeded (D : Ad) : Sp := fun vs H Q _ => ∃ (pa : Addr) (p : Prog), vs = [.ref pa] ∧ ProgAt D H pa p ∧ ProgOk p ∧ p.code.length ≤ 100000 ∧ GiveL H Q ((Vagrai.needed p).map V.bl)
theorem ok_needed_ones (T : Txt K mg D) : FnOk P w K mg base CX0 3 D.a_needed_ones D.d_needed_ones P_needed_ones (spNeeded D) := by
  have G_made_of := ok_made_of (P := P) (w := w) (base := base) T
  refine T.F_needed_ones.ok sc_needed_ones (fun vs H Q E h => by first | (obtain ⟨rfl, _⟩ := h; rfl) | (obtain ⟨_, rfl, _⟩ := h; rfl) | (obtain ⟨_, _, rfl, _⟩ := h; rfl) | (obtain ⟨_, _, _, rfl, _⟩ := h; rfl) | (obtain ⟨_, _, _, _, rfl, _⟩ := h; rfl) | (obtain ⟨_, _, _, _, _, rfl, _⟩ := h; rfl) | (obtain ⟨_, _, _, _, _, _, rfl, _⟩ := h; rfl) | (obtain ⟨_, _, _, _, _, _, _, rfl, _⟩ := h; rfl) | (obtain ⟨_, _, _, _, _, _, _, _, rfl, _⟩ := h; rfl) | (obtain ⟨_, _, _, _, _, _, _, _, _, rfl, _⟩ := h; rfl) | (obtain ⟨_, _, _, _, _, _, _, _, _, _, rfl, _⟩ := h; rfl) | (obtain ⟨_, _, _, _, _, _, _, _, _, _, _, rfl, _⟩ := h; rfl) | (obtain ⟨_, _, _, _, _, _, _, _, _, _, _, _, rfl, _⟩ := h; rfl)) (fun cdv A outer s H vs Q E hr h => ?_)
  refine ⟨_, (pss_cons (ps_setLc (i := 1) (own := [("line", 5)]) (g := gName 5) (tt := tYes) rfl sc_needed_ones.nd rfl rfl (sw_true rfl rfl rfl (by decide +kernel)) (pi_list (pe_fld (pv 0) rfl)) (blkOk_by (own := [("line", 5)]) (N := N_needed_ones) (sc := defScope s_needed_ones) (by decide +kernel)) (fun _ _ _ _ _ => pg_name (i := 5) sc_needed_ones.nd rfl (Or.inl rfl)) (fun _ _ _ _ _ => pts_nil) (fun _ _ _ _ _ => pe_bl))
    (pss_cons (ps_for PassesOwn.never rfl (pi_list (pe_fld (pv 0) rfl)) (pg_name (i := 2) sc_needed_ones.nd rfl (Or.inl rfl)) (pss_one (ps_asg pe_bl (pg_sub (pv 1) (pv 2) set_list))))
    (pss_cons (ps_for PassesOwn.never rfl (pi_range3 rfl T.f_range (pa_cons (pe_op op_sub (pe_callB call_len_seq (by rfl) T.f_len PySem.boot_len (pa_cons (pe_fld (pv 0) rfl) pa_nil)) pe_int) (pa_cons (pe_un un_neg pe_int) (pa_cons (pe_un un_neg pe_int) pa_nil)))) (pg_name (i := 3) sc_needed_ones.nd rfl (Or.inl rfl)) (pss_one (ps_if (pt_val (pe_ix ix_list (pv 1) (pv 3) (fun _ _ => rfl))) (pss_one (ps_for PassesOwn.never rfl (pi_tup (pe_call G_made_of (hr.mono (by decide)) rfl T.g_made_of T.F_made_of.kp (b_made_of T) .nil pass0 (pa_cons (pe_ix ix_list (pe_fld (pv 0) rfl) (pv 3) (fun _ _ => rfl)) pa_nil))) (pg_name (i := 4) sc_needed_ones.nd rfl (Or.inl rfl)) (pss_one (ps_asg pe_bl (pg_sub (pv 1) (pv 4) set_list))))) pss_nil)))
    (pss_one (ps_ret (pv 1)))))), ?_⟩
  obtain ⟨pa, p, rfl, ⟨dp, pl, po, ps, hP⟩, ok, hz, k⟩ := h
  have zl : sizeLine = 16777216 := rfl
  have lp := hP.lines.len
  refine ⟨_, rfl, pa, _, dp, _, _, rfl, hP.obj, T.cl_Program, T.n_Program_lines, lk_lines _ _ _, pl, rfl, ⟨_, SqL.of hP.lst⟩, fun M hM => lc_list (K := K) (a := pl) (xs := ps.map V.ref)
    (fun i H' => Same H H' ∧ H' M = some (.lst (List.replicate i (V.bl false)))) ⟨same_upd hM, upd_same⟩ (fun i H' _ e => SqL.of (e.1 _ _ hP.lst)) (fun i y H' hi e => ?_) (fun H1 e => ?_)⟩
  · refine ⟨rfl, ?_⟩
    have hi' : i < (ps.map V.ref).length := (List.getElem?_eq_some_iff.mp hi).1
    rw [List.length_map, lp] at hi'
    refine ⟨_, e.2, by simp; omega, fun b o z => ?_, ?_⟩
    · rw [upd_ne (ne_of_none z hM)]; exact e.1 _ _ z
    · rw [upd_same, List.replicate_succ']
  obtain ⟨s1, h1⟩ := e
  rw [List.length_map, lp] at h1
  have h1 : H1 M = some (.lst (((List.range p.code.length).map fun j => (p.outs.take 0).contains j).map V.bl)) := by
    rw [h1]
    congr 2
    apply List.ext_getElem?
    intro j
    by_cases hj : j < p.code.length
    · simp [List.getElem?_replicate, List.getElem?_range hj, hj]
    · simp [List.getElem?_replicate, hj]
  -- for out in program.outs
  refine ⟨_, rfl, pa, _, dp, _, _, rfl, s1 _ _ hP.obj, T.cl_Program, T.n_Program_outs, lk_outs _ _ _, po, rfl, ⟨_, SqL.of (s1 _ _ hP.outs)⟩, for_list (K := K) (a := po) (xs := p.outs.map natV)
    (fun i σ H' => ∃ a b c d : Option V, σ = [some (.ref pa), some (.ref M), a, b, c, d] ∧ Same H H' ∧ H' M = some (.lst (((List.range p.code.length).map fun j => (p.outs.take i).contains j).map V.bl)))
    ⟨none, none, none, none, rfl, s1, h1⟩ (fun i σ H' _ ⟨_, _, _, _, _, b, _⟩ => SqL.of (b _ _ hP.outs)) ?_ ?_⟩
  · rintro i y σ H2 hi ⟨a, b, c, d, rfl, s2, h2⟩
    rw [List.getElem?_map] at hi
    cases hp : p.outs[i]? with
    | none => rw [hp] at hi; cases hi
    | some o =>
      rw [hp] at hi
      obtain rfl : natV o = y := Option.some.inj hi
      have ho := ok.outs o (List.mem_of_getElem? hp)
      refine ⟨_, rfl, _, rfl, M, _, (o : Int), o, rfl, rfl, h2, ixN_nat (by simpa using ho), ?_⟩
      refine ⟨_, _, _, _, rfl, fun x o z => by rw [upd_ne (ne_of_none z hM)]; exact s2 _ _ z, ?_⟩
      rw [upd_same]
      refine congrArg (fun q => some (HO.lst q)) ((map_range_set _ _ _ ho).trans ?_)
      refine congrArg (fun q => List.map V.bl (List.map q (List.range p.code.length))) (funext fun j => (contains_take hp j).symm)
  rintro σ H2 ⟨a, b, c, d, rfl, s2, h2⟩
  rw [List.length_map, List.take_length] at h2
  -- for i in range(..)
  refine ⟨_, rfl, pa, _, dp, _, _, rfl, s2 _ _ hP.obj, T.cl_Program, T.n_Program_lines, lk_lines _ _ _, pl, _, rfl, .inl (SqL.of (s2 _ _ hP.lst)), _, _, rfl, rfl, _, rfl, _, rfl, _, _, _, _, rfl,
    RgC.neg (by simp; omega) (by simp [lp]; omega) (by omega) (by omega), for_rangeC (lo := (((ps.map V.ref).length : Nat) : Int) - 1) (c := -1) (n := ((((ps.map V.ref).length : Nat) : Int) - 1 - -1).toNat)
    (fun i σ H' => ∃ (a b c d : Option V) (ns : List Bool), σ = [some (.ref pa), some (.ref M), a, b, c, d] ∧ Same H H' ∧ H' M = some (.lst (ns.map V.bl)) ∧ ns.length = p.code.length ∧ Vagrai.needed p = Vagrai.neededFrom p.code (p.code.length - i) ns)
    ⟨_, _, _, _, _, rfl, s2, h2, by simp, rfl⟩ ?_ ?_⟩
  · rintro i σ H3 hi ⟨a, b, c, d, ns, rfl, s3, h3, hl, hg⟩
    rw [List.length_map, lp] at hi
    have il : i < p.code.length := by omega
    have ix : (((ps.map V.ref).length : Nat) : Int) - 1 + (i : Nat) * (-1) = ((p.code.length - 1 - i : Nat) : Int) := by rw [List.length_map, lp]; omega
    have hlc := getD_some (c := p.code) (i := p.code.length - 1 - i) (by omega)
    have okl := ok.code _ _ hlc
    rw [ix]
    have gn : (ns.map V.bl)[p.code.length - 1 - i]? = some (V.bl (ns.getD (p.code.length - 1 - i) false)) := by
      rw [List.getElem?_map, List.getD_eq_getElem?_getD, List.getElem?_eq_getElem (by omega)]
      rfl
    refine ⟨_, rfl, _, rfl, M, _, ((p.code.length - 1 - i : Nat) : Int), _, rfl, rfl, SqL.of h3, atI_nat gn, _, rfl, ?_⟩
    have hstep := needed_down p.code il ns
    unfold needStep at hstep
    cases e : ns.getD (p.code.length - 1 - i) false with
    | false =>
      refine ifF rfl ?_
      rw [e, if_neg Bool.false_ne_true] at hstep
      exact ⟨_, _, _, _, ns, rfl, s3, h3, hl, hg.trans hstep⟩
    | true =>
      rw [e, if_pos rfl] at hstep
      refine ifT rfl ?_
      have P3 := hP.same s3
      obtain ⟨q, hq1, hq2⟩ := P3.lines.get hlc
      refine ⟨_, rfl, pa, _, dp, _, _, rfl, P3.obj, T.cl_Program, T.n_Program_lines, lk_lines _ _ _, _, rfl, pl, _, ((p.code.length - 1 - i : Nat) : Int), V.ref q, rfl, rfl, SqL.of P3.lst, atI_nat (by rw [List.getElem?_map, hq1]; rfl), ?_⟩
      refine ⟨q, _, rfl, hq2, fun H4 u s4 nu hu => ?_⟩
      generalize hus : (p.code.getD (p.code.length - 1 - i) (.num Vagraa.zero)).uses = us at hu hstep
      have ub : ∀ x ∈ us, x < p.code.length := fun x hx => by
        rw [← hus] at hx
        have := okl.uses x hx
        omega
      have uM : u ≠ M := (ne_of_none h3 nu).symm
      refine ⟨_, rfl, ⟨_, SqT.of hu⟩, for_tup (K := K) (a := u) (xs := us.map natV)
        (fun j σ H' => ∃ (a b c d : Option V), σ = [some (.ref pa), some (.ref M), a, b, c, d] ∧ Same H H' ∧ H' u = some (.tup (us.map natV)) ∧ H' M = some (.lst (((us.take j).foldl (fun a k => a.set k true) ns).map V.bl)))
        ⟨_, _, _, _, rfl, s3.trans s4, hu, s4 _ _ h3⟩ (fun j σ H' _ ⟨_, _, _, _, _, _, b, _⟩ => SqT.of b) ?_ ?_⟩
      · rintro j y σ H5 hj ⟨a, b, c, d, rfl, s5, hu5, h5⟩
        rw [List.getElem?_map] at hj
        cases hx : us[j]? with
        | none => rw [hx] at hj; cases hj
        | some x =>
          rw [hx] at hj
          obtain rfl : natV x = y := Option.some.inj hj
          have xb := ub x (List.mem_of_getElem? hx)
          refine ⟨_, rfl, _, rfl, M, _, (x : Int), x, rfl, rfl, h5, ixN_nat (by rw [List.length_map, setAll_len]; omega), ?_⟩
          refine ⟨_, _, _, _, rfl, fun b o z => by rw [upd_ne (ne_of_none z hM)]; exact s5 _ _ z, by rw [upd_ne uM]; exact hu5, ?_⟩
          rw [upd_same, take_snoc hx, List.foldl_append]
          exact congrArg (fun q => some (HO.lst q)) (bl_set _ _)
      · rintro σ H5 ⟨a, b, c, d, rfl, s5, hu5, h5⟩
        rw [List.length_map, List.take_length] at h5
        exact ⟨_, _, _, _, _, rfl, s5, h5, by rw [setAll_len]; exact hl, hg.trans hstep⟩
  · rintro σ H3 ⟨a, b, c, d, ns, rfl, s3, h3, hl, hg⟩
    have en : ((((ps.map V.ref).length : Nat) : Int) - 1 - -1).toNat = p.code.length := by rw [List.length_map, lp]; omega
    rw [en, Nat.sub_self] at hg
    have hg : Vagrai.needed p = ns := hg
    refine ⟨_, rfl, k H3 M s3 hM ?_⟩
    rw [hg]
    exact h3
theorem filter_take (f : Nat → Bool) (n : Nat) : (List.range (n + 1)).filter f = (List.range n).filter f ++ (if f n = true then [n] else []) := by
  rw [List.range_succ, List.filter_append]
  congr 1
  by_cases c : f n = true
  · rw [if_pos c, List.filter_cons_of_pos c]; rfl
  · rw [if_neg c, List.filter_cons_of_neg c]; rfl
def spNeededL (D : Ad) : Sp := fun vs H Q _ => ∃ (pa : Addr) (p : Prog), vs = [.ref pa] ∧ ProgAt D H pa p ∧ ProgOk p ∧ p.code.length ≤ 100000 ∧ GiveL H Q ((neededIx p).map natV)
theorem ok_needed_lines (T : Txt K mg D) : FnOk P w K mg base CX0 4 D.a_needed_lines D.d_needed_lines P_needed_lines (spNeededL D) := by
  have G_needed_ones := ok_needed_ones (P := P) (w := w) (base := base) T
  refine T.F_needed_lines.ok sc_needed_lines (fun vs H Q E h => by first | (obtain ⟨rfl, _⟩ := h; rfl) | (obtain ⟨_, rfl, _⟩ := h; rfl) | (obtain ⟨_, _, rfl, _⟩ := h; rfl) | (obtain ⟨_, _, _, rfl, _⟩ := h; rfl) | (obtain ⟨_, _, _, _, rfl, _⟩ := h; rfl) | (obtain ⟨_, _, _, _, _, rfl, _⟩ := h; rfl) | (obtain ⟨_, _, _, _, _, _, rfl, _⟩ := h; rfl) | (obtain ⟨_, _, _, _, _, _, _, rfl, _⟩ := h; rfl) | (obtain ⟨_, _, _, _, _, _, _, _, rfl, _⟩ := h; rfl) | (obtain ⟨_, _, _, _, _, _, _, _, _, rfl, _⟩ := h; rfl) | (obtain ⟨_, _, _, _, _, _, _, _, _, _, rfl, _⟩ := h; rfl) | (obtain ⟨_, _, _, _, _, _, _, _, _, _, _, rfl, _⟩ := h; rfl) | (obtain ⟨_, _, _, _, _, _, _, _, _, _, _, _, rfl, _⟩ := h; rfl)) (fun cdv A outer s H vs Q E hr h => ?_)
  refine ⟨_, (pss_one (ps_ret (pe_lc (own := [("i", 1), ("is_needed", 2)]) (g := gTup K 2 (gCons (gName 1) (gCons (gName 2) gNil))) rfl sc_needed_lines.nd (pi_enum (by rfl) T.f_enumerate (pa_cons (pe_call G_needed_ones (hr.mono (by decide)) rfl T.g_needed_ones T.F_needed_ones.kp (b_needed_ones T) .nil pass0 (pa_cons (pv 0) pa_nil)) pa_nil)) (blkOk_by (own := [("i", 1), ("is_needed", 2)]) (N := N_needed_lines) (sc := defScope s_needed_lines) (by decide +kernel)) (fun _ _ _ _ _ => pg_tupK (K := K) rfl rfl (pgs_cons (pg_name (i := 1) sc_needed_lines.nd rfl (Or.inl rfl)) (pgs_cons (pg_name (i := 2) sc_needed_lines.nd rfl (Or.inl rfl)) pgs_nil))) (fun _ _ _ _ _ => pts_one (pt_val (pv 2))) (fun _ _ _ _ _ => (pv 1))))), ?_⟩
  obtain ⟨pa, p, rfl, hpa, ok, hz, k⟩ := h
  have zl : sizeLine = 16777216 := rfl
  have nl := needed_len p
  let f : Nat → Bool := fun i => (Vagrai.needed p).getD i false
  refine ⟨_, rfl, pa, p, rfl, hpa, ok, hz, fun H1 nd s1 nn hn => ⟨nd, _, rfl, SqL.of hn, fun M hM => lc_enum (K := K) (a := nd) (xs := (Vagrai.needed p).map V.bl)
    (fun i H' => Same H1 H' ∧ H' M = some (.lst (((List.range i).filter f).map natV))) ⟨same_upd hM, upd_same⟩ (fun i H' _ e => SqL.of (e.1 _ _ hn)) (fun i y H' t hi e nt => ?_) (fun H' e => ?_)⟩⟩
  · obtain ⟨s2, h2⟩ := e
    rw [List.getElem?_map] at hi
    cases hb : (Vagrai.needed p)[i]? with
    | none => rw [hb] at hi; cases hi
    | some b =>
      rw [hb] at hi
      obtain rfl : V.bl b = y := Option.some.inj hi
      have hf : f i = b := by
        show (Vagrai.needed p).getD i false = _
        rw [List.getD_eq_getElem?_getD, hb]; rfl
      have il : i < p.code.length := by rw [← nl]; exact (List.getElem?_eq_some_iff.mp hb).1
      have st := same_upd (o := .tup [V.int (i : Nat), V.bl b]) nt
      have s3 := s2.trans st
      have h3 := st _ _ h2
      have ft := filter_take f i
      have fl : ((List.range i).filter f).length ≤ i := Nat.le_trans (List.length_filter_le _ _) (by rw [List.length_range]; exact Nat.le_refl _)
      refine ⟨t, _, rfl, SqT.of upd_same, rfl, _, _, rfl, _, _, rfl, rfl, rfl, ?_⟩
      refine ⟨_, rfl, _, rfl, ?_⟩
      rw [hf] at ft
      cases b with
      | true =>
        rw [if_pos rfl] at ft
        refine ifT rfl ⟨_, rfl, _, h3, by rw [List.length_map]; omega, fun b o z => (upd_ne (ne_of_none z hM)).trans (s3 _ _ z), ?_⟩
        rw [upd_same, ft, List.map_append]
        rfl
      | false =>
        rw [if_neg Bool.false_ne_true, List.append_nil] at ft
        refine ifF rfl ⟨s3, ?_⟩
        rw [ft]
        exact h3
  · obtain ⟨s2, h2⟩ := e
    rw [List.length_map, nl] at h2
    exact k H' M (s1.trans s2) (s1.free hM) h2
theorem renamed_kind (f : Nat → Nat) (l : Line) : kindOf (Vagrai.renamed f l) = kindOf l := by cases l <;> rfl
theorem renamed_uses (f : Nat → Nat) (l : Line) : (Vagrai.renamed f l).uses = l.uses.map f := by cases l <;> rfl
theorem renamed_no {f : Nat → Nat} {l : Line} (h : l.uses = []) : Vagrai.renamed f l = l := by cases l <;> simp [VagraLine.Line.uses] at h <;> rfl
theorem kind_uses {l : Line} (h : l.uses ≠ []) : ¬ (kindOf l = 0 ∨ kindOf l = 1) := by cases l <;> simp [VagraLine.Line.uses] at h <;> simp [kindOf]
theorem uses_len (l : Line) : l.uses.length ≤ 2 := by cases l <;> simp [VagraLine.Line.uses]
def spRenamed : Sp := fun vs H Q _ => ∃ (p pl : Addr) (l : Line) (kvs : List (Key × V)) (f : Nat → Nat), vs = [.ref p, .ref pl] ∧ H p = some (.tup (lineV l)) ∧ H pl = some (.dK kvs) ∧ (∀ u ∈ l.uses, valV kvs (.inl (u : Int)) = some (natV (f u))) ∧
  ∀ (H' : Hp) (q : Addr), Same H H' → H' q = some (.tup (lineV (Vagrai.renamed f l))) → Q (.ref q) H'
theorem ok_renamed (T : Txt K mg D) : FnOk P w K mg base CX0 3 D.a_renamed D.d_renamed P_renamed (spRenamed) := by
  have G_made_of := ok_made_of (P := P) (w := w) (base := base) T
  refine T.F_renamed.ok sc_renamed (fun vs H Q E h => by first | (obtain ⟨rfl, _⟩ := h; rfl) | (obtain ⟨_, rfl, _⟩ := h; rfl) | (obtain ⟨_, _, rfl, _⟩ := h; rfl) | (obtain ⟨_, _, _, rfl, _⟩ := h; rfl) | (obtain ⟨_, _, _, _, rfl, _⟩ := h; rfl) | (obtain ⟨_, _, _, _, _, rfl, _⟩ := h; rfl) | (obtain ⟨_, _, _, _, _, _, rfl, _⟩ := h; rfl) | (obtain ⟨_, _, _, _, _, _, _, rfl, _⟩ := h; rfl) | (obtain ⟨_, _, _, _, _, _, _, _, rfl, _⟩ := h; rfl) | (obtain ⟨_, _, _, _, _, _, _, _, _, rfl, _⟩ := h; rfl) | (obtain ⟨_, _, _, _, _, _, _, _, _, _, rfl, _⟩ := h; rfl) | (obtain ⟨_, _, _, _, _, _, _, _, _, _, _, rfl, _⟩ := h; rfl) | (obtain ⟨_, _, _, _, _, _, _, _, _, _, _, _, rfl, _⟩ := h; rfl)) (fun cdv A outer s H vs Q E hr h => ?_)
  have hu := hu_of hr
  refine ⟨_, (pss_cons (ps_set (i := 2) sc_renamed.nd rfl (.inl rfl) (pe_call G_made_of (hr.mono (by decide)) rfl T.g_made_of T.F_made_of.kp (b_made_of T) .nil pass0 (pa_cons (pv 0) pa_nil)))
    (pss_cons (ps_if (pt_not (pt_truth (pv 2) (fun _ => rfl))) (pss_one (ps_ret (pv 0))) pss_nil)
    (pss_one (ps_ret (pe_op op_catA (pe_tup (pa_cons (pe_ix ix_tup (pv 0) pe_int (fun _ _ => rfl)) pa_nil)) (pe_callTy call_tuple_of (by rfl) T.f_tuple (by decide +kernel) (pa_cons (pe_lc (own := [("i", 3)]) (g := gName 3) (tt := tYes) rfl sc_renamed.nd (pi_tup (pv 2)) (blkOk_by (own := [("i", 3)]) (N := N_renamed) (sc := defScope s_renamed) (by decide +kernel)) (fun _ _ _ _ _ => pg_name (i := 3) sc_renamed.nd rfl (Or.inl rfl)) (fun _ _ _ _ _ => pts_nil) (fun _ _ _ _ _ => (pe_dget hu (pv 1) (pv 3) (fun _ _ => rfl)))) pa_nil))))))), ?_⟩
  obtain ⟨p, pl, l, kvs, f, rfl, hp, hd, hu, k⟩ := h
  have zl : sizeLine = 16777216 := rfl
  refine ⟨_, rfl, p, l, rfl, hp, fun H1 u s1 nu h1 => ?_⟩
  refine ⟨_, rfl, _, .inr (.inl ⟨_, SqT.of h1, rfl⟩), ?_⟩
  by_cases hn : l.uses = []
  · rw [hn]
    refine ifT rfl ?_
    refine ⟨_, rfl, k H1 p s1 ?_⟩
    rw [renamed_no hn]
    exact s1 _ _ hp
  · refine ifF (by cases e : l.uses with | nil => exact absurd e hn | cons a r => rfl) ?_
    have hd1 := s1 _ _ hd
    have hp1 := s1 _ _ hp
    refine ⟨_, rfl, _, _, _, _, rfl, rfl, SqT.of hp1, atI_nat (lineV_kind l), (by show 1 ≤ sizeLine; decide), fun t1 n1 => ?_⟩
    have s2 := same_upd (o := .tup [V.int (kindOf l)]) n1
    refine ⟨_, rfl, u, rfl, ⟨_, SqT.of (s2 _ _ h1)⟩, fun M hM => lc_tup (K := K) (a := u) (xs := l.uses.map natV)
      (fun i H' => Same (upd H1 t1 (.tup [V.int (kindOf l)])) H' ∧ H' M = some (.lst ((l.uses.take i).map fun x => natV (f x)))) ⟨same_upd hM, upd_same⟩ (fun i H' _ e => SqT.of (e.1 _ _ (s2 _ _ h1))) (fun i y H' hi e => ?_) (fun H2 e => ?_)⟩
    · rw [List.getElem?_map] at hi
      cases hx : l.uses[i]? with
      | none => rw [hx] at hi; cases hi
      | some x =>
        rw [hx] at hi
        obtain rfl : natV x = y := Option.some.inj hi
        have ul := uses_len l
        refine ⟨rfl, ?_⟩
        refine ⟨_, rfl, _, rfl, pl, natV (f x), rfl, ?_, _, e.2, by simp; omega, fun b o z => ?_, ?_⟩
        · rw [← hu x (List.mem_of_getElem? hx)]
          exact DGet.k (k := .inl (x : Int)) (e.1 _ _ (s2 _ _ hd1))
        · rw [upd_ne (ne_of_none z hM)]; exact e.1 _ _ z
        · rw [upd_same, take_snoc hx, List.map_append]; rfl
    · obtain ⟨s3, h3⟩ := e
      rw [List.length_map, List.take_length] at h3
      refine ⟨M, _, rfl, .inl ⟨SqL.of h3, fun t2 n2 => ?_⟩⟩
      have s4 := same_upd (o := .tup (l.uses.map fun x => natV (f x))) n2
      have ul := uses_len l
      refine ⟨t1, t2, _, _, rfl, rfl, SqT.of (s4 _ _ (s3 _ _ upd_same)), SqT.of upd_same, by simp; omega, nofun, fun _ z => absurd (List.map_eq_nil_iff.mp z) hn, fun _ _ q hq => ?_⟩
      refine k _ q ((s1.trans s2).trans ((s3.trans s4).trans (same_upd hq))) ?_
      rw [upd_same]
      have hk := kind_uses hn
      rw [lineV_uses (l := Vagrai.renamed f l) (by rw [renamed_kind]; exact hk), renamed_kind, renamed_uses, List.map_map]
      rfl
/-- the needed ones among those below L, one by one -/
theorem filter_at {f : Nat → Bool} : ∀ {L m i : Nat}, ((List.range L).filter f)[m]? = some i → ((List.range L).filter f).take m = (List.range i).filter f ∧ f i = true ∧ i < L
  | 0, m, i, h => by simp at h
  | L + 1, m, i, h => by
    rw [filter_take] at h ⊢
    rcases Nat.lt_or_ge m ((List.range L).filter f).length with lt | ge
    · rw [List.getElem?_append_left lt] at h
      obtain ⟨a, b, c⟩ := filter_at h
      refine ⟨?_, b, by omega⟩
      rw [List.take_append_of_le_length (by omega), a]
    · rw [List.getElem?_append_right ge] at h
      by_cases c : f L = true
      · rw [if_pos c] at h ⊢
        have z : m - ((List.range L).filter f).length = 0 := by
          cases q : m - ((List.range L).filter f).length with
          | zero => rfl
          | succ n => rw [q] at h; simp at h
        rw [z] at h
        obtain rfl : L = i := by simpa using h
        refine ⟨?_, c, by omega⟩
        have e : m = ((List.range L).filter f).length := by omega
        rw [e, List.take_append_of_le_length (Nat.le_refl _), List.take_length]
      · rw [if_neg c] at h
        simp at h
theorem mem_ix {f : Nat → Bool} {i u : Nat} (h : u < i) (hf : f u = true) : u ∈ (List.range i).filter f := List.mem_filter.mpr ⟨List.mem_range.mpr h, hf⟩
theorem trimTo_ix {ns : List Bool} {c : List Line} (h : ns.length = c.length) : ∀ i, i ≤ c.length → trimTo ns c i = ((List.range i).filter fun j => ns.getD j false).map fun j => Vagrai.renamed (Vagrai.place ns) (c.getD j (.num Vagraa.zero))
  | 0, _ => by rw [trimTo_zero]; rfl
  | i + 1, hi => by
    have hl : c[i]? = some c[i] := List.getElem?_eq_getElem (by omega)
    have hb : ns[i]? = some ns[i] := List.getElem?_eq_getElem (by omega)
    have eb : ns.getD i false = ns[i] := by rw [List.getD_eq_getElem?_getD, hb]; rfl
    have el : c.getD i (.num Vagraa.zero) = c[i] := by rw [List.getD_eq_getElem?_getD, hl]; rfl
    rw [trimTo_succ hl hb, filter_take, trimTo_ix h i (by omega), List.map_append, eb]
    cases ns[i] with
    | true => rw [if_pos rfl, if_pos rfl, List.map_singleton, el]
    | false => rw [if_neg Bool.false_ne_true, if_neg Bool.false_ne_true]; rfl
theorem place_ix {ns : List Bool} : ∀ i, i ≤ ns.length → Vagrai.place ns i = ((List.range i).filter fun j => ns.getD j false).length
  | 0, _ => rfl
  | i + 1, hi => by
    have hb : ns[i]? = some ns[i] := List.getElem?_eq_getElem (by omega)
    have eb : ns.getD i false = ns[i] := by rw [List.getD_eq_getElem?_getD, hb]; rfl
    rw [place_succ hb, filter_take, place_ix i (by omega), List.length_append, eb]
    cases ns[i] <;> rfl
def spTrim (D : Ad) : Sp := fun vs H Q _ => ∃ (pa : Addr) (p : Prog), vs = [.ref pa] ∧ ProgAt D H pa p ∧ ProgOk p ∧ p.code.length ≤ 100000 ∧ p.outs.length ≤ 100000 ∧ GiveP D H Q (Vagrai.trimmed p)
theorem ok_trimmed (T : Txt K mg D) : FnOk P w K mg base CX0 5 D.a_trimmed D.d_trimmed P_trimmed (spTrim D) := by
  have G_needed_lines := ok_needed_lines (P := P) (w := w) (base := base) T
  have G_renamed := ok_renamed (P := P) (w := w) (base := base) T
  have G_Program_init := ok_Program_init (P := P) (w := w) (base := base) T
  refine T.F_trimmed.ok sc_trimmed (fun vs H Q E h => by first | (obtain ⟨rfl, _⟩ := h; rfl) | (obtain ⟨_, rfl, _⟩ := h; rfl) | (obtain ⟨_, _, rfl, _⟩ := h; rfl) | (obtain ⟨_, _, _, rfl, _⟩ := h; rfl) | (obtain ⟨_, _, _, _, rfl, _⟩ := h; rfl) | (obtain ⟨_, _, _, _, _, rfl, _⟩ := h; rfl) | (obtain ⟨_, _, _, _, _, _, rfl, _⟩ := h; rfl) | (obtain ⟨_, _, _, _, _, _, _, rfl, _⟩ := h; rfl) | (obtain ⟨_, _, _, _, _, _, _, _, rfl, _⟩ := h; rfl) | (obtain ⟨_, _, _, _, _, _, _, _, _, rfl, _⟩ := h; rfl) | (obtain ⟨_, _, _, _, _, _, _, _, _, _, rfl, _⟩ := h; rfl) | (obtain ⟨_, _, _, _, _, _, _, _, _, _, _, rfl, _⟩ := h; rfl) | (obtain ⟨_, _, _, _, _, _, _, _, _, _, _, _, rfl, _⟩ := h; rfl)) (fun cdv A outer s H vs Q E hr h => ?_)
  have hu := hu_of hr
  refine ⟨_, (pss_cons (ps_set (i := 1) sc_trimmed.nd rfl (.inl rfl) (pe_lst pa_nil))
    (pss_cons (ps_set (i := 2) sc_trimmed.nd rfl (.inr rfl) pe_dnewK)
    (pss_cons (ps_for PassesOwn.never rfl (pi_list (pe_call G_needed_lines (hr.mono (by decide)) rfl T.g_needed_lines T.F_needed_lines.kp (b_needed_lines T) .nil pass0 (pa_cons (pv 0) pa_nil))) (pg_name (i := 3) sc_trimmed.nd rfl (Or.inl rfl)) (pss_cons (ps_dput hu (pv 2) (pv 3) (pe_callB call_len_seq (by rfl) T.f_len PySem.boot_len (pa_cons (pv 1) pa_nil)) rfl)
      (pss_one (ps_expr (pe_bm PySem.F.plainAttrs_list PySem.F.slot_list_append PySem.F.type_list_append mt_append (pv 1) (pa_cons (pe_call G_renamed (hr.mono (by decide)) rfl T.g_renamed T.F_renamed.kp (b_renamed T) .nil pass0 (pa_cons (pe_ix ix_list (pe_fld (pv 0) rfl) (pv 3) (fun _ _ => rfl)) (pa_cons (pv 2) pa_nil))) pa_nil))))))
    (pss_one (ps_ret (pe_make T.mk_Program G_Program_init (hr.mono (by decide)) rfl T.g_Program (b_Program_init T) .nil pass0 (pa_cons (pe_fld (pv 0) rfl) (pa_cons (pv 1) (pa_cons (pe_lc (own := [("out", 4)]) (g := gName 4) (tt := tYes) rfl sc_trimmed.nd (pi_list (pe_fld (pv 0) rfl)) (blkOk_by (own := [("out", 4)]) (N := N_trimmed) (sc := defScope s_trimmed) (by decide +kernel)) (fun _ _ _ _ _ => pg_name (i := 4) sc_trimmed.nd rfl (Or.inl rfl)) (fun _ _ _ _ _ => pts_nil) (fun _ _ _ _ _ => (pe_dget hu (pv 2) (pv 4) (fun _ _ => rfl)))) pa_nil))))))))), ?_⟩
  obtain ⟨pa, p, rfl, ⟨dp, pl, po, ps, hP⟩, ok, hz, hzo, k⟩ := h
  have zl : sizeLine = 16777216 := rfl
  have lp := hP.lines.len
  have nl := needed_len p
  -- lines = []; places = {}
  refine ⟨(by show 0 ≤ sizeLine; decide), fun M hM => ?_⟩
  intro pd hpd
  have nMd : M ≠ pd := fun z => by rw [← z, upd_same] at hpd; cases hpd
  have s0 : Same H (upd (upd H M (.lst [])) pd (.dK [])) := (same_upd hM).trans (same_upd hpd)
  have hpd0 : H pd = none := by rw [upd_ne nMd.symm] at hpd; exact hpd
  -- for i in needed_lines(program)
  refine ⟨_, rfl, pa, p, rfl, ⟨dp, pl, po, ps, hP.same s0⟩, ok, hz, fun H1 nd s1 nnd hnd => ?_⟩
  have hM1 : H1 M = some (.lst []) := s1 _ _ ((upd_ne nMd).trans upd_same)
  have hd1 : H1 pd = some (.dK []) := s1 _ _ upd_same
  have ndM : nd ≠ M := (ne_of_none ((upd_ne nMd).trans upd_same) nnd).symm
  have ndd : nd ≠ pd := (ne_of_none upd_same nnd).symm
  have s01 := s0.trans s1
  have hnd0 : H nd = none := s0.free nnd
  let rn : Nat → Line := fun j => Vagrai.renamed (Vagrai.place (Vagrai.needed p)) (p.code.getD j (.num Vagraa.zero))
  refine ⟨nd, rfl, ⟨_, SqL.of hnd⟩, for_list (K := K) (a := nd) (xs := (neededIx p).map natV)
    (fun m σ H' => ∃ (a b : Option V) (kvs : List (Key × V)) (qs : List Addr), σ = [some (.ref pa), some (.ref M), some (.ref pd), a, b] ∧ Same H H' ∧ H' nd = some (.lst ((neededIx p).map natV)) ∧ H' M = some (.lst (qs.map V.ref)) ∧
      Lines H' qs (((neededIx p).take m).map rn) ∧ H' pd = some (.dK kvs) ∧ kvs.length ≤ m ∧ ∀ j, j ∈ (neededIx p).take m → valV kvs (.inl (j : Int)) = some (natV (Vagrai.place (Vagrai.needed p) j)))
    ⟨_, _, [], [], rfl, s01, hnd, hM1, Lines.nil _, hd1, Nat.le_refl _, fun j hj => by simp at hj⟩ (fun i σ H' _ ⟨_, _, _, _, _, _, b, _⟩ => SqL.of b) ?_ ?_⟩
  · rintro m y σ H2 hi ⟨a, b, kvs, qs, rfl, s2, hn2, hM2, hL2, hd2, kl, hv⟩
    rw [List.getElem?_map] at hi
    cases hp : (neededIx p)[m]? with
    | none => rw [hp] at hi; cases hi
    | some i =>
      rw [hp] at hi
      obtain rfl : natV i = y := Option.some.inj hi
      obtain ⟨tk, fi, il⟩ := filter_at hp
      have tk : (neededIx p).take m = (List.range i).filter fun j => (Vagrai.needed p).getD j false := tk
      have hb : (Vagrai.needed p)[i]? = some true := getD_b.mp fi
      have ml : m < (neededIx p).length := (List.getElem?_eq_some_iff.mp hp).1
      have mle : m ≤ p.code.length := Nat.le_trans (Nat.le_of_lt ml) (Nat.le_trans (List.length_filter_le _ _) (by rw [List.length_range]; exact Nat.le_refl _))
      have hl := getD_some (c := p.code) (i := i) il
      have okl := ok.code i _ hl
      have pm : Vagrai.place (Vagrai.needed p) i = m := by rw [place_ix i (by omega), ← tk, List.length_take]; omega
      have ql : qs.length = Vagrai.place (Vagrai.needed p) i := by rw [hL2.len, List.length_map, List.length_take, pm]; omega
      -- places[i] = len(lines)
      refine ⟨_, rfl, _, _, rfl, .inl (SqL.of hM2), _, rfl, _, rfl, pd, _, rfl, DPut.k (k := .inl (i : Int)) hd2 (by omega), ?_⟩
      generalize hH3 : upd H2 pd (.dK (putK kvs (.inl (i : Int)) (.int (((qs.map V.ref).length : Nat) : Int)))) = H3
      have b3 : ∀ {r : Addr} {o : HO}, H2 r = some o → r ≠ pd → H3 r = some o := fun z y => by rw [← hH3, upd_ne y]; exact z
      have hd3 : H3 pd = some (.dK (putK kvs (.inl (i : Int)) (natV (Vagrai.place (Vagrai.needed p) i)))) := by rw [← hH3, upd_same, List.length_map, ql]; rfl
      have tks : (neededIx p).take (m + 1) = (neededIx p).take m ++ [i] := take_snoc hp
      have v3 : ∀ j, j ∈ (neededIx p).take (m + 1) → valV (putK kvs (.inl (i : Int)) (natV (Vagrai.place (Vagrai.needed p) i))) (.inl (j : Int)) = some (natV (Vagrai.place (Vagrai.needed p) j)) := fun j hj => by
        rw [valV_put]
        by_cases e : j = i
        · subst e; rw [if_pos rfl]
        · rw [if_neg (fun z => e (by injection z with z; omega))]
          rw [tks] at hj
          rcases List.mem_append.mp hj with hj | hj
          · exact hv j hj
          · exact absurd (List.mem_singleton.mp hj) e
      have pk : (putK kvs (.inl (i : Int)) (natV (Vagrai.place (Vagrai.needed p) i))).length ≤ m + 1 := by
        unfold putK
        split
        · rw [List.length_map]; omega
        · rw [List.length_append]; simp; omega
      have hM3 := b3 hM2 nMd
      have s4 : Same H H3 := fun r o z => b3 (s2 _ _ z) (ne_of_none z hpd0)
      have P4 := hP.same s4
      obtain ⟨q, hq1, hq2⟩ := P4.lines.get hl
      refine ⟨_, rfl, .inl ⟨rfl, _, SqL.of hM3⟩, ?_⟩
      refine ⟨_, rfl, pa, _, dp, _, _, rfl, P4.obj, T.cl_Program, T.n_Program_lines, lk_lines _ _ _, _, rfl, pl, _, (i : Int), V.ref q, rfl, rfl, SqL.of P4.lst, atI_nat (by rw [List.getElem?_map, hq1]; rfl), ?_⟩
      refine ⟨_, rfl, q, pd, _, _, Vagrai.place (Vagrai.needed p), rfl, hq2, hd3, fun u hu => ?_, fun H5 r s5 hr => ?_⟩
      · refine v3 u ?_
        rw [tks, tk]
        exact List.mem_append_left _ (mem_ix (okl.uses u hu) (getD_b.mpr (needed_use ok hl hb hu)))
      refine ⟨M, _, _, rfl, rfl, s5 _ _ hM3, by rw [List.length_map, ql, pm]; omega, ?_⟩
      have rM : r ≠ M := ne_of hr (s5 _ _ hM3) nofun
      have B : But H5 (upd H5 M (.lst (qs.map V.ref ++ [V.ref r]))) M := fun x o z y => (upd_ne y).trans z
      refine ⟨_, _, _, qs ++ [r], rfl, fun x o z => B _ _ (s5 _ _ (s4 _ _ z)) (ne_of_none z hM), B _ _ (s5 _ _ (b3 hn2 ndd)) ndM, by rw [upd_same]; simp, ?_, B _ _ (s5 _ _ hd3) nMd.symm, pk, v3⟩
      rw [tks, List.map_append]
      refine Lines.snoc (hL2.keep fun x xs z => B _ _ (s5 _ _ (b3 z (ne_of z hd2 nofun))) (ne_of z hM2 nofun)) (B _ _ hr rM)
  · rintro σ H2 ⟨a, b, kvs, qs, rfl, s2, hn2, hM2, hL2, hd2, kl, hv⟩
    rw [List.length_map, List.take_length] at hL2 hv
    have hL2 : Lines H2 qs (trimTo (Vagrai.needed p) p.code p.code.length) := by rw [trimTo_ix nl _ (Nat.le_refl _)]; exact hL2
    have hv : ∀ j, j < p.code.length → (Vagrai.needed p)[j]? = some true → valV kvs (.inl (j : Int)) = some (natV (Vagrai.place (Vagrai.needed p) j)) := fun j hj hn => hv j (mem_ix hj (getD_b.mpr hn))
    have P2 := hP.same s2
    refine ⟨_, rfl, pa, _, dp, _, _, rfl, P2.obj, T.cl_Program, T.n_Program_inputs, lk_inputs _ _ _, _, rfl, ?_⟩
    refine ⟨_, rfl, pa, _, dp, _, _, rfl, P2.obj, T.cl_Program, T.n_Program_outs, lk_outs _ _ _, po, rfl, ⟨_, SqL.of P2.outs⟩, fun R hR => lc_list (K := K) (a := po) (xs := p.outs.map natV)
      (fun i H' => Same H2 H' ∧ H' R = some (.lst ((p.outs.take i).map fun o => natV (Vagrai.place (Vagrai.needed p) o)))) ⟨same_upd hR, upd_same⟩ (fun i H' _ e => SqL.of (e.1 _ _ P2.outs)) (fun i y H3 hi e => ?_) (fun H3 e => ?_)⟩
    · obtain ⟨s3, r3⟩ := e
      rw [List.getElem?_map] at hi
      cases hp : p.outs[i]? with
      | none => rw [hp] at hi; cases hi
      | some o =>
        rw [hp] at hi
        obtain rfl : natV o = y := Option.some.inj hi
        have il : i < p.outs.length := (List.getElem?_eq_some_iff.mp hp).1
        have hm := List.mem_of_getElem? hp
        refine ⟨rfl, ?_⟩
        refine ⟨_, rfl, _, rfl, pd, natV (Vagrai.place (Vagrai.needed p) o), rfl, ?_, _, r3, by simp; omega, fun x u z => ?_, ?_⟩
        · rw [← hv o (ok.outs o hm) (needed_out ok hm)]
          exact DGet.k (k := .inl (o : Int)) (s3 _ _ hd2)
        · rw [upd_ne (ne_of_none z hR)]; exact s3 _ _ z
        · rw [upd_same, take_snoc hp, List.map_append]; rfl
    · obtain ⟨s3, r3⟩ := e
      rw [List.length_map, List.take_length] at r3
      intro y dy ny ndy ne2
      have s6 : Same H3 (upd (upd H3 dy (.own y)) y (.ins D.c_Program dy (progF p.inputs M R))) := fun b o z => by
        rw [upd_ne (ne_of_none z ny), upd_ne (ne_of_none z ndy)]
        exact z
      refine ⟨y, dy, M, R, p.inputs, rfl, upd_same, rfl, ?_⟩
      rw [upd_upd]
      have s7 := (s2.trans s3)
      refine k _ y (s7.trans s6) (s7.free ny) ⟨dy, M, R, qs, upd_same, s6 _ _ (s3 _ _ hM2), ?_, s6 _ _ ?_⟩
      · rw [trimTo_all]
        exact hL2.keep fun x xs z => s6 _ _ (s3 _ _ z)
      · rw [r3]
        show some (HO.lst (p.outs.map fun o => natV (Vagrai.place (Vagrai.needed p) o))) = some (HO.lst ((p.outs.map (Vagrai.place (Vagrai.needed p))).map natV))
        rw [List.map_map]
        rfl
end Lc
set_option Elab.async false
set_option linter.all false
set_option maxRecDepth 100000
set_option maxHeartbeats 4000000
namespace Lc
open PySem PySem.Spec PyProof.Rows L2
open Vagraa (Frac frac)
open VagraLine (Line)
open Vagrai (Prog Work)
variable {P : Program} {w : World} {K : PySem.W.Frag} {mg : Str → Option Value} {base : Heap} {D : Ad}
/-- fractions one behind the other: the tuples at ps -/
structure Fracs (H : Hp) (ps : List Addr) (c : List Frac) : Prop where
  len : ps.length = c.length
  at_ : ∀ (i : Nat) (p : Addr) (l : Frac), ps[i]? = some p → c[i]? = some l → H p = some (.tup (fracV l))
theorem Fracs.nil (H : Hp) : Fracs H [] [] := ⟨rfl, fun i p l e => by simp at e⟩
theorem Fracs.keep {H H' : Hp} {ps : List Addr} {c : List Frac} (h : Fracs H ps c) (k : ∀ (p : Addr) (xs : List V), H p = some (.tup xs) → H' p = some (.tup xs)) : Fracs H' ps c := ⟨h.len, fun i p l e1 e2 => k _ _ (h.at_ i p l e1 e2)⟩
theorem Fracs.snoc {H : Hp} {ps : List Addr} {c : List Frac} {p : Addr} {l : Frac} (h : Fracs H ps c) (hp : H p = some (.tup (fracV l))) : Fracs H (ps ++ [p]) (c ++ [l]) := by
  refine ⟨by simp [h.len], fun i q m e1 e2 => ?_⟩
  rw [List.getElem?_append] at e1 e2
  rw [h.len] at e1
  by_cases hi : i < c.length
  · rw [if_pos hi] at e1 e2
    exact h.at_ i q m e1 e2
  · rw [if_neg hi] at e1 e2
    have z : i - c.length = 0 := by
      cases k : i - c.length with
      | zero => rfl
      | succ n => rw [k] at e1; simp at e1
    rw [z] at e1 e2
    have e1 : p = q := by simpa using e1
    have e2 : l = m := by simpa using e2
    subst e1 e2
    exact hp
theorem Fracs.append {H : Hp} {ps qs : List Addr} {c d : List Frac} (h : Fracs H ps c) (h2 : Fracs H qs d) : Fracs H (ps ++ qs) (c ++ d) := by
  refine ⟨by simp [h.len, h2.len], fun i q m e1 e2 => ?_⟩
  rw [List.getElem?_append] at e1 e2
  rw [h.len] at e1
  by_cases hi : i < c.length
  · rw [if_pos hi] at e1 e2
    exact h.at_ i q m e1 e2
  · rw [if_neg hi] at e1 e2
    exact h2.at_ _ q m e1 e2
theorem Fracs.get {H : Hp} {ps : List Addr} {c : List Frac} {i : Nat} {l : Frac} (h : Fracs H ps c) (e : c[i]? = some l) : ∃ p, ps[i]? = some p ∧ H p = some (.tup (fracV l)) := by
  have hi : i < ps.length := by rw [h.len]; exact (List.getElem?_eq_some_iff.mp e).1
  exact ⟨ps[i], List.getElem?_eq_getElem hi, h.at_ i _ l (List.getElem?_eq_getElem hi) e⟩
def FracsAt (H : Hp) (a : Addr) (c : List Frac) : Prop := ∃ ps : List Addr, H a = some (.lst (ps.map V.ref)) ∧ Fracs H ps c
theorem FracsAt.same {H H' : Hp} {a : Addr} {c : List Frac} (e : Same H H') (h : FracsAt H a c) : FracsAt H' a c := by
  obtain ⟨ps, h1, h2⟩ := h
  exact ⟨ps, e _ _ h1, h2.keep fun p xs z => e _ _ z⟩
theorem at_get {c : List Frac} {i : Nat} (h : i < c.length) : c[i]? = some (VagraLine.at_ c i) := by
  unfold VagraLine.at_
  rw [List.getD_eq_getElem?_getD, List.getElem?_eq_getElem h]
  rfl
structure FracOk (a : Frac) : Prop where
  low : Low a
  small : Small a
def GiveV (H : Hp) (Q : VK) : Option Frac → Prop
  | none => ∀ H' : Hp, Same H H' → Q .non H'
  | some a => ∀ (H' : Hp) (q : Addr), Same H H' → H' q = some (.tup (fracV a)) → Q (.ref q) H'
theorem GiveV.as {H : Hp} {Q : VK} {o o' : Option Frac} (k : GiveV H Q o) (e : o = o') : GiveV H Q o' := e ▸ k
def spWork : Sp := fun vs H Q _ => ∃ (p ia va : Addr) (l : Line) (xs zs : List Frac), vs = [.ref p, .ref ia, .ref va] ∧ H p = some (.tup (lineV l)) ∧ FracsAt H ia xs ∧ FracsAt H va zs ∧ LineOk xs.length zs.length l ∧ (∀ a ∈ zs, FracOk a) ∧ GiveV H Q (l.value xs zs)
theorem ok_worked_out (T : Txt K mg D) : FnOk P w K mg base CX0 4 D.a_worked_out D.d_worked_out P_worked_out (spWork) := by
  have G_plus := ok_plus (P := P) (w := w) (base := base) T
  have G_minus := ok_minus (P := P) (w := w) (base := base) T
  have G_times := ok_times (P := P) (w := w) (base := base) T
  have G_over := ok_over (P := P) (w := w) (base := base) T
  have G_opposite := ok_opposite (P := P) (w := w) (base := base) T
  obtain ⟨t_INPUT, v_INPUT⟩ := T.v_INPUT
  obtain ⟨t_CONSTANT, v_CONSTANT⟩ := T.v_CONSTANT
  obtain ⟨t_SUM, v_SUM⟩ := T.v_SUM
  obtain ⟨t_DIFFERENCE, v_DIFFERENCE⟩ := T.v_DIFFERENCE
  obtain ⟨t_PRODUCT, v_PRODUCT⟩ := T.v_PRODUCT
  obtain ⟨t_QUOTIENT, v_QUOTIENT⟩ := T.v_QUOTIENT
  refine T.F_worked_out.ok sc_worked_out (fun vs H Q E h => by first | (obtain ⟨rfl, _⟩ := h; rfl) | (obtain ⟨_, rfl, _⟩ := h; rfl) | (obtain ⟨_, _, rfl, _⟩ := h; rfl) | (obtain ⟨_, _, _, rfl, _⟩ := h; rfl) | (obtain ⟨_, _, _, _, rfl, _⟩ := h; rfl) | (obtain ⟨_, _, _, _, _, rfl, _⟩ := h; rfl) | (obtain ⟨_, _, _, _, _, _, rfl, _⟩ := h; rfl) | (obtain ⟨_, _, _, _, _, _, _, rfl, _⟩ := h; rfl) | (obtain ⟨_, _, _, _, _, _, _, _, rfl, _⟩ := h; rfl) | (obtain ⟨_, _, _, _, _, _, _, _, _, rfl, _⟩ := h; rfl) | (obtain ⟨_, _, _, _, _, _, _, _, _, _, rfl, _⟩ := h; rfl) | (obtain ⟨_, _, _, _, _, _, _, _, _, _, _, rfl, _⟩ := h; rfl) | (obtain ⟨_, _, _, _, _, _, _, _, _, _, _, _, rfl, _⟩ := h; rfl)) (fun cdv A outer s H vs Q E hr h => ?_)
  refine ⟨_, (pss_cons (ps_set (i := 3) sc_worked_out.nd rfl (.inl rfl) (pe_ix ix_tup (pv 0) pe_int (fun _ _ => rfl)))
    (pss_cons (ps_if (pt_cmpR op_eq (pv 3) (pe_glob (v := .int 0) rfl v_INPUT ⟨_, rfl⟩) (nomark _)) (pss_one (ps_ret (pe_ix ix_list (pv 1) (pe_ix ix_tup (pv 0) pe_int (fun _ _ => rfl)) (fun _ _ => rfl)))) pss_nil)
    (pss_cons (ps_if (pt_cmpR op_eq (pv 3) (pe_glob (v := .int 1) rfl v_CONSTANT ⟨_, rfl⟩) (nomark _)) (pss_one (ps_ret (pe_tup (pa_cons (pe_ix ix_tup (pv 0) pe_int (fun _ _ => rfl)) (pa_cons (pe_ix ix_tup (pv 0) pe_int (fun _ _ => rfl)) pa_nil))))) pss_nil)
    (pss_cons (ps_set (i := 4) sc_worked_out.nd rfl (.inl rfl) (pe_ix ix_list (pv 2) (pe_ix ix_tup (pv 0) pe_int (fun _ _ => rfl)) (fun _ _ => rfl)))
    (pss_cons (ps_if (pt_cmpR op_eq (pv 3) (pe_glob (v := .int 2) rfl v_SUM ⟨_, rfl⟩) (nomark _)) (pss_one (ps_ret (pe_call G_plus (hr.mono (by decide)) rfl T.g_plus T.F_plus.kp (b_plus T) .nil pass0 (pa_cons (pv 4) (pa_cons (pe_ix ix_list (pv 2) (pe_ix ix_tup (pv 0) pe_int (fun _ _ => rfl)) (fun _ _ => rfl)) pa_nil))))) pss_nil)
    (pss_cons (ps_if (pt_cmpR op_eq (pv 3) (pe_glob (v := .int 3) rfl v_DIFFERENCE ⟨_, rfl⟩) (nomark _)) (pss_one (ps_ret (pe_call G_minus (hr.mono (by decide)) rfl T.g_minus T.F_minus.kp (b_minus T) .nil pass0 (pa_cons (pv 4) (pa_cons (pe_ix ix_list (pv 2) (pe_ix ix_tup (pv 0) pe_int (fun _ _ => rfl)) (fun _ _ => rfl)) pa_nil))))) pss_nil)
    (pss_cons (ps_if (pt_cmpR op_eq (pv 3) (pe_glob (v := .int 4) rfl v_PRODUCT ⟨_, rfl⟩) (nomark _)) (pss_one (ps_ret (pe_call G_times (hr.mono (by decide)) rfl T.g_times T.F_times.kp (b_times T) .nil pass0 (pa_cons (pv 4) (pa_cons (pe_ix ix_list (pv 2) (pe_ix ix_tup (pv 0) pe_int (fun _ _ => rfl)) (fun _ _ => rfl)) pa_nil))))) pss_nil)
    (pss_cons (ps_if (pt_cmpR op_eq (pv 3) (pe_glob (v := .int 5) rfl v_QUOTIENT ⟨_, rfl⟩) (nomark _)) (pss_cons (ps_set (i := 5) sc_worked_out.nd rfl (.inl rfl) (pe_ix ix_list (pv 2) (pe_ix ix_tup (pv 0) pe_int (fun _ _ => rfl)) (fun _ _ => rfl)))
      (pss_one (ps_ret (pe_ifExp (pt_cmpR op_eq (pe_ix ix_tup (pv 5) pe_int (fun _ _ => rfl)) pe_int (nomark _)) pe_non (pe_call G_over (hr.mono (by decide)) rfl T.g_over T.F_over.kp (b_over T) .nil pass0 (pa_cons (pv 4) (pa_cons (pv 5) pa_nil))))))) pss_nil)
    (pss_one (ps_ret (pe_call G_opposite (hr.mono (by decide)) rfl T.g_opposite T.F_opposite.kp (b_opposite T) .nil pass0 (pa_cons (pv 4) pa_nil)))))))))))), ?_⟩
  obtain ⟨p, ia, va, l, xs, zs, rfl, hp, ⟨ips, hi1, hi2⟩, ⟨vps, hv1, hv2⟩, ok, hs, k⟩ := h
  refine ⟨_, rfl, _, _, _, _, rfl, rfl, SqT.of hp, atI_nat (lineV_kind l), ?_⟩
  have val : ∀ {j : Nat}, j < zs.length → ∃ q, (vps.map V.ref)[j]? = some (V.ref q) ∧ H q = some (.tup (fracV (VagraLine.at_ zs j))) ∧ FracOk (VagraLine.at_ zs j) := fun hj => by
    have e := at_get hj
    obtain ⟨q, e1, e2⟩ := hv2.get e
    exact ⟨q, by rw [List.getElem?_map, e1]; rfl, e2, hs _ (List.mem_of_getElem? e)⟩
  cases l with
  | input j =>
    have hj := ok.inp j rfl
    obtain ⟨q, e1, e2⟩ := hi2.get (at_get hj)
    refine ⟨_, rfl, rfl, _, rfl, ?_⟩
    refine ifT rfl ?_
    refine ⟨_, rfl, _, rfl, _, _, _, _, rfl, rfl, SqT.of hp, rfl, ia, _, (j : Int), V.ref q, rfl, rfl, SqL.of hi1, atI_nat (by rw [List.getElem?_map, e1]; rfl), ?_⟩
    exact k H q (fun b o z => z) e2
  | num a =>
    refine ⟨_, rfl, rfl, _, rfl, ?_⟩
    refine ifF rfl ?_
    refine ⟨_, rfl, rfl, _, rfl, ?_⟩
    refine ifT rfl ?_
    refine ⟨_, rfl, _, _, _, _, rfl, rfl, SqT.of hp, rfl, _, rfl, _, _, _, _, rfl, rfl, SqT.of hp, rfl, (by show 2 ≤ sizeLine; decide), fun q hq => ?_⟩
    exact k _ q (same_upd hq) upd_same
  | add i j =>
    obtain ⟨q1, a1, b1, c1⟩ := val (ok.uses i (by simp [VagraLine.Line.uses]))
    obtain ⟨q2, a2, b2, c2⟩ := val (ok.uses j (by simp [VagraLine.Line.uses]))
    refine ⟨_, rfl, rfl, _, rfl, ?_⟩
    refine ifF rfl ?_
    refine ⟨_, rfl, rfl, _, rfl, ?_⟩
    refine ifF rfl ?_
    refine ⟨_, rfl, _, rfl, _, _, _, _, rfl, rfl, SqT.of hp, rfl, va, _, (i : Int), V.ref q1, rfl, rfl, SqL.of hv1, atI_nat a1, ?_⟩
    refine ⟨_, rfl, rfl, _, rfl, ?_⟩
    refine ifT rfl ?_
    refine ⟨_, rfl, _, rfl, _, rfl, _, _, _, _, rfl, rfl, SqT.of hp, rfl, va, _, (j : Int), V.ref q2, rfl, rfl, SqL.of hv1, atI_nat a2, ?_⟩
    exact ⟨q1, q2, _, _, rfl, SqT.of b1, SqT.of b2, c1.low, c2.low, c1.small, c2.small, fun H1 q s1 _ h1 => k H1 q s1 h1⟩
  | sub i j =>
    obtain ⟨q1, a1, b1, c1⟩ := val (ok.uses i (by simp [VagraLine.Line.uses]))
    obtain ⟨q2, a2, b2, c2⟩ := val (ok.uses j (by simp [VagraLine.Line.uses]))
    refine ⟨_, rfl, rfl, _, rfl, ?_⟩
    refine ifF rfl ?_
    refine ⟨_, rfl, rfl, _, rfl, ?_⟩
    refine ifF rfl ?_
    refine ⟨_, rfl, _, rfl, _, _, _, _, rfl, rfl, SqT.of hp, rfl, va, _, (i : Int), V.ref q1, rfl, rfl, SqL.of hv1, atI_nat a1, ?_⟩
    refine ⟨_, rfl, rfl, _, rfl, ?_⟩
    refine ifF rfl ?_
    refine ⟨_, rfl, rfl, _, rfl, ?_⟩
    refine ifT rfl ?_
    refine ⟨_, rfl, _, rfl, _, rfl, _, _, _, _, rfl, rfl, SqT.of hp, rfl, va, _, (j : Int), V.ref q2, rfl, rfl, SqL.of hv1, atI_nat a2, ?_⟩
    exact ⟨q1, q2, _, _, rfl, SqT.of b1, SqT.of b2, c1.low, c2.low, c1.small, c2.small, fun H1 q s1 _ h1 => k H1 q s1 h1⟩
  | mul i j =>
    obtain ⟨q1, a1, b1, c1⟩ := val (ok.uses i (by simp [VagraLine.Line.uses]))
    obtain ⟨q2, a2, b2, c2⟩ := val (ok.uses j (by simp [VagraLine.Line.uses]))
    refine ⟨_, rfl, rfl, _, rfl, ?_⟩
    refine ifF rfl ?_
    refine ⟨_, rfl, rfl, _, rfl, ?_⟩
    refine ifF rfl ?_
    refine ⟨_, rfl, _, rfl, _, _, _, _, rfl, rfl, SqT.of hp, rfl, va, _, (i : Int), V.ref q1, rfl, rfl, SqL.of hv1, atI_nat a1, ?_⟩
    refine ⟨_, rfl, rfl, _, rfl, ?_⟩
    refine ifF rfl ?_
    refine ⟨_, rfl, rfl, _, rfl, ?_⟩
    refine ifF rfl ?_
    refine ⟨_, rfl, rfl, _, rfl, ?_⟩
    refine ifT rfl ?_
    refine ⟨_, rfl, _, rfl, _, rfl, _, _, _, _, rfl, rfl, SqT.of hp, rfl, va, _, (j : Int), V.ref q2, rfl, rfl, SqL.of hv1, atI_nat a2, ?_⟩
    exact ⟨q1, q2, _, _, rfl, SqT.of b1, SqT.of b2, c1.low, c2.low, c1.small, c2.small, fun H1 q s1 _ h1 => k H1 q s1 h1⟩
  | div i j =>
    obtain ⟨q1, a1, b1, c1⟩ := val (ok.uses i (by simp [VagraLine.Line.uses]))
    obtain ⟨q2, a2, b2, c2⟩ := val (ok.uses j (by simp [VagraLine.Line.uses]))
    refine ⟨_, rfl, rfl, _, rfl, ?_⟩
    refine ifF rfl ?_
    refine ⟨_, rfl, rfl, _, rfl, ?_⟩
    refine ifF rfl ?_
    refine ⟨_, rfl, _, rfl, _, _, _, _, rfl, rfl, SqT.of hp, rfl, va, _, (i : Int), V.ref q1, rfl, rfl, SqL.of hv1, atI_nat a1, ?_⟩
    refine ⟨_, rfl, rfl, _, rfl, ?_⟩
    refine ifF rfl ?_
    refine ⟨_, rfl, rfl, _, rfl, ?_⟩
    refine ifF rfl ?_
    refine ⟨_, rfl, rfl, _, rfl, ?_⟩
    refine ifF rfl ?_
    refine ⟨_, rfl, rfl, _, rfl, ?_⟩
    refine ifT rfl ?_
    refine ⟨_, rfl, _, rfl, _, _, _, _, rfl, rfl, SqT.of hp, rfl, va, _, (j : Int), V.ref q2, rfl, rfl, SqL.of hv1, atI_nat a2, ?_⟩
    refine ⟨_, rfl, _, _, _, _, rfl, rfl, SqT.of b2, rfl, rfl, _, rfl, ?_⟩
    by_cases z : (VagraLine.at_ zs j).num = 0
    · refine ifT (decide_eq_true (by rw [z])) ?_
      have e : VagraLine.Line.value xs zs (.div i j) = none := by
        show (if Vagraa.isZero (VagraLine.at_ zs j) = true then none else _) = none
        rw [if_pos (by unfold Vagraa.isZero; rw [z]; rfl)]
      exact (k.as e) H (fun b o z => z)
    · refine ifF (decide_eq_false fun y => z (by injection y)) ?_
      have e : VagraLine.Line.value xs zs (.div i j) = some (Vagraa.div (VagraLine.at_ zs i) (VagraLine.at_ zs j)) := by
        show (if Vagraa.isZero (VagraLine.at_ zs j) = true then none else _) = _
        rw [if_neg (by unfold Vagraa.isZero; simpa using z)]
      exact ⟨_, rfl, _, rfl, q1, q2, _, _, rfl, SqT.of b1, SqT.of b2, c1.low, c2.low, c1.small, c2.small, z, fun H1 q s1 _ h1 => (k.as e) H1 q s1 h1⟩
  | neg i =>
    obtain ⟨q1, a1, b1, c1⟩ := val (ok.uses i (by simp [VagraLine.Line.uses]))
    refine ⟨_, rfl, rfl, _, rfl, ?_⟩
    refine ifF rfl ?_
    refine ⟨_, rfl, rfl, _, rfl, ?_⟩
    refine ifF rfl ?_
    refine ⟨_, rfl, _, rfl, _, _, _, _, rfl, rfl, SqT.of hp, rfl, va, _, (i : Int), V.ref q1, rfl, rfl, SqL.of hv1, atI_nat a1, ?_⟩
    refine ⟨_, rfl, rfl, _, rfl, ?_⟩
    refine ifF rfl ?_
    refine ⟨_, rfl, rfl, _, rfl, ?_⟩
    refine ifF rfl ?_
    refine ⟨_, rfl, rfl, _, rfl, ?_⟩
    refine ifF rfl ?_
    refine ⟨_, rfl, rfl, _, rfl, ?_⟩
    refine ifF rfl ?_
    exact ⟨_, rfl, q1, _, rfl, SqT.of b1, fun H1 q s1 _ h1 => k H1 q s1 h1⟩
theorem value_low {l : Line} {n : Nat} {xs zs : List Frac} {a : Frac} (ok : LineOk n zs.length l) (hx : ∀ b ∈ xs, Low b) (hn : n = xs.length) (hs : ∀ b ∈ zs, FracOk b) (h : l.value xs zs = some a) : Low a := by
  have val : ∀ {j : Nat}, j < zs.length → Low (VagraLine.at_ zs j) := fun hj => (hs _ (List.mem_of_getElem? (at_get hj))).low
  cases l with
  | input j =>
    cases h
    exact hx _ (List.mem_of_getElem? (at_get (by have := ok.inp j rfl; omega)))
  | num b => cases h; exact ok.low _ rfl
  | add i j => cases h; exact add_low (val (ok.uses i (by simp [VagraLine.Line.uses]))) (val (ok.uses j (by simp [VagraLine.Line.uses])))
  | sub i j => cases h; exact add_low (val (ok.uses i (by simp [VagraLine.Line.uses]))) (neg_low (val (ok.uses j (by simp [VagraLine.Line.uses]))))
  | mul i j => cases h; exact mul_low (val (ok.uses i (by simp [VagraLine.Line.uses]))) (val (ok.uses j (by simp [VagraLine.Line.uses])))
  | div i j =>
    have h : (if Vagraa.isZero (VagraLine.at_ zs j) = true then none else some (Vagraa.div (VagraLine.at_ zs i) (VagraLine.at_ zs j))) = some a := h
    split at h
    · cases h
    · rename_i hz
      cases h
      refine mul_low (val (ok.uses i (by simp [VagraLine.Line.uses]))) (inv_low (val (ok.uses j (by simp [VagraLine.Line.uses]))) fun z => hz ?_)
      unfold Vagraa.isZero
      rw [z]
      rfl
  | neg i => cases h; exact neg_low (val (ok.uses i (by simp [VagraLine.Line.uses])))
theorem small_of {a : Frac} (h : ¬ 4000 < Vagraa.weight a) : Small a := by
  have key : ∀ n : Nat, Vagraa.bits n ≤ 4000 → n < 2 ^ 4000 := fun n hb => by
    unfold Vagraa.bits at hb
    by_cases z : n = 0
    · rw [z]; exact Nat.two_pow_pos _
    · rw [if_neg z] at hb
      exact (Nat.log2_lt z).mp (by omega)
  unfold Vagraa.weight at h
  exact ⟨key _ (by omega), key _ (by omega)⟩
/-- what comes of running, in numbers -/
def ranL (p : Prog) (x : List Frac) : List Int := match VagraLine.run (some Vagrai.LONG) x p.code with
  | .error e => [1, (e.line : Int), (e.kind : Int)]
  | .ok vs => 0 :: (p.outs.length : Int) :: VagraLine.fracsTold (p.outs.map (VagraLine.at_ vs))
theorem ranTold_is (p : Prog) (x : List Frac) : Vagrai.ranTold p x = .ok (ranL p x) := by
  unfold Vagrai.ranTold ranL
  cases VagraLine.run (some Vagrai.LONG) x p.code <;> rfl
theorem runFrom_zero {xs zs : List Frac} {l : Line} {r : List Line} (h : l.value xs zs = none) : VagraLine.runFrom (some Vagrai.LONG) xs zs (l :: r) = .error ⟨zs.length, 1⟩ := by
  unfold VagraLine.runFrom
  rw [h]
theorem runFrom_some {xs zs : List Frac} {l : Line} {r : List Line} {a : Frac} (h : l.value xs zs = some a) : VagraLine.runFrom (some Vagrai.LONG) xs zs (l :: r) = if 4000 < Vagraa.weight a then .error ⟨zs.length, 2⟩ else VagraLine.runFrom (some Vagrai.LONG) xs (zs ++ [a]) r := by
  conv => lhs; unfold VagraLine.runFrom
  rw [h]
  by_cases c : 4000 < Vagraa.weight a
  · rw [if_pos c]
    simp only [Vagrai.LONG, c, decide_true, if_true]
  · rw [if_neg c]
    simp only [Vagrai.LONG, c, decide_false, Bool.false_eq_true, if_false]
theorem fracsTold_snoc (l : List Frac) (a : Frac) : VagraLine.fracsTold (l ++ [a]) = VagraLine.fracsTold l ++ [a.num, (a.den : Int)] := by simp [VagraLine.fracsTold]
def spRun (D : Ad) : Sp := fun vs H Q _ => ∃ (pa ia : Addr) (p : Prog) (xs : List Frac), vs = [.ref pa, .ref ia] ∧ ProgAt D H pa p ∧ ProgOk p ∧ p.code.length ≤ 100000 ∧ p.outs.length ≤ 100000 ∧ FracsAt H ia xs ∧ xs.length = p.inputs ∧ (∀ a ∈ xs, Low a) ∧ GiveL H Q ((ranL p xs).map V.int)
theorem ok_run (T : Txt K mg D) : FnOk P w K mg base CX0 5 D.a_run D.d_run P_run (spRun D) := by
  have G_worked_out := ok_worked_out (P := P) (w := w) (base := base) T
  have G_weight := ok_weight (P := P) (w := w) (base := base) T
  obtain ⟨t_DIVISOR_IS_ZERO, v_DIVISOR_IS_ZERO⟩ := T.v_DIVISOR_IS_ZERO
  obtain ⟨t_HEAVIEST, v_HEAVIEST⟩ := T.v_HEAVIEST
  obtain ⟨t_TOO_HEAVY, v_TOO_HEAVY⟩ := T.v_TOO_HEAVY
  refine T.F_run.ok sc_run (fun vs H Q E h => by first | (obtain ⟨rfl, _⟩ := h; rfl) | (obtain ⟨_, rfl, _⟩ := h; rfl) | (obtain ⟨_, _, rfl, _⟩ := h; rfl) | (obtain ⟨_, _, _, rfl, _⟩ := h; rfl) | (obtain ⟨_, _, _, _, rfl, _⟩ := h; rfl) | (obtain ⟨_, _, _, _, _, rfl, _⟩ := h; rfl) | (obtain ⟨_, _, _, _, _, _, rfl, _⟩ := h; rfl) | (obtain ⟨_, _, _, _, _, _, _, rfl, _⟩ := h; rfl) | (obtain ⟨_, _, _, _, _, _, _, _, rfl, _⟩ := h; rfl) | (obtain ⟨_, _, _, _, _, _, _, _, _, rfl, _⟩ := h; rfl) | (obtain ⟨_, _, _, _, _, _, _, _, _, _, rfl, _⟩ := h; rfl) | (obtain ⟨_, _, _, _, _, _, _, _, _, _, _, rfl, _⟩ := h; rfl) | (obtain ⟨_, _, _, _, _, _, _, _, _, _, _, _, rfl, _⟩ := h; rfl)) (fun cdv A outer s H vs Q E hr h => ?_)
  refine ⟨_, (pss_cons (ps_set (i := 2) sc_run.nd rfl (.inl rfl) (pe_lst pa_nil))
    (pss_cons (ps_for PassesOwn.never rfl (pi_enum (by rfl) T.f_enumerate (pa_cons (pe_fld (pv 0) rfl) pa_nil)) (pg_tup rfl (pgs_cons (pg_name (i := 3) sc_run.nd rfl (Or.inl rfl)) (pgs_cons (pg_name (i := 4) sc_run.nd rfl (Or.inl rfl)) pgs_nil))) (pss_cons (ps_set (i := 5) sc_run.nd rfl (.inl rfl) (pe_call G_worked_out (hr.mono (by decide)) rfl T.g_worked_out T.F_worked_out.kp (b_worked_out T) .nil pass0 (pa_cons (pv 4) (pa_cons (pv 1) (pa_cons (pv 2) pa_nil)))))
      (pss_cons (ps_if (pt_cmpR op_isN (pv 5) pe_non (nomark _)) (pss_one (ps_ret (pe_lst (pa_cons pe_int (pa_cons (pv 3) (pa_cons (pe_glob (v := .int 1) rfl v_DIVISOR_IS_ZERO ⟨_, rfl⟩) pa_nil)))))) pss_nil)
      (pss_cons (ps_if (pt_cmpR op_gt (pe_call G_weight (hr.mono (by decide)) rfl T.g_weight T.F_weight.kp (b_weight T) .nil pass0 (pa_cons (pv 5) pa_nil)) (pe_glob (v := .int 4000) rfl v_HEAVIEST ⟨_, rfl⟩) (nomark _)) (pss_one (ps_ret (pe_lst (pa_cons pe_int (pa_cons (pv 3) (pa_cons (pe_glob (v := .int 2) rfl v_TOO_HEAVY ⟨_, rfl⟩) pa_nil)))))) pss_nil)
      (pss_one (ps_expr (pe_bm PySem.F.plainAttrs_list PySem.F.slot_list_append PySem.F.type_list_append mt_append (pv 2) (pa_cons (pv 5) pa_nil))))))))
    (pss_cons (ps_set (i := 6) sc_run.nd rfl (.inl rfl) (pe_lst (pa_cons pe_int (pa_cons (pe_callB call_len_seq (by rfl) T.f_len PySem.boot_len (pa_cons (pe_fld (pv 0) rfl) pa_nil)) pa_nil))))
    (pss_cons (ps_for PassesOwn.never rfl (pi_list (pe_fld (pv 0) rfl)) (pg_name (i := 7) sc_run.nd rfl (Or.inl rfl)) (pss_one (ps_expr (pe_bm PySem.F.plainAttrs_list PySem.F.slot_list_extend PySem.F.type_list_extend mt_extendT (pv 6) (pa_cons (pe_ix ix_list (pv 2) (pv 7) (fun _ _ => rfl)) pa_nil)))))
    (pss_one (ps_ret (pv 6))))))), ?_⟩
  obtain ⟨pa, ia, p, xs, rfl, ⟨dp, pl, po, ps, hP⟩, ok, hz, hzo, hI, hxl, hx, k⟩ := h
  have zl : sizeLine = 16777216 := rfl
  have lp := hP.lines.len
  unfold ranL VagraLine.run at k
  refine ⟨(by show 0 ≤ sizeLine; decide), fun M hM => ?_⟩
  have s0 := same_upd (o := .lst []) hM
  refine ⟨_, rfl, pa, _, dp, _, _, rfl, s0 _ _ hP.obj, T.cl_Program, T.n_Program_lines, lk_lines _ _ _, pl, _, rfl, SqL.of (s0 _ _ hP.lst), for_enum (K := K) (a := pl) (xs := ps.map V.ref)
    (fun i σ H' => ∃ (a b c d e : Option V) (qs : List Addr) (zs : List Frac), σ = [some (.ref pa), some (.ref ia), some (.ref M), a, b, c, d, e] ∧ Same H H' ∧ H' M = some (.lst (qs.map V.ref)) ∧ Fracs H' qs zs ∧ zs.length = i ∧ (∀ a ∈ zs, FracOk a) ∧
      VagraLine.runFrom (some Vagrai.LONG) xs [] p.code = VagraLine.runFrom (some Vagrai.LONG) xs zs (p.code.drop i))
    ⟨_, _, _, _, _, [], [], rfl, s0, upd_same, Fracs.nil _, rfl, fun a ha => by simp at ha, rfl⟩ (fun i σ H' _ ⟨_, _, _, _, _, _, _, _, b, _⟩ => SqL.of (b _ _ hP.lst)) ?_ ?_⟩
  · rintro i y σ H2 t hi ⟨a, b, c, d, e, qs, zs, rfl, s2, m2, f2, zl2, fo, hg⟩ nt
    rw [List.getElem?_map] at hi
    cases hp : ps[i]? with
    | none => rw [hp] at hi; cases hi
    | some q =>
      rw [hp] at hi
      obtain rfl : V.ref q = y := Option.some.inj hi
      obtain ⟨l, hl, hq⟩ := hP.lines.get' hp
      obtain ⟨il, el⟩ := List.getElem?_eq_some_iff.mp hl
      have okl := ok.code i l hl
      rw [List.drop_eq_getElem_cons il, el] at hg
      have st := same_upd (o := .tup [V.int (i : Nat), V.ref q]) nt
      have s3 := s2.trans st
      have okl' : LineOk xs.length zs.length l := by rw [hxl, zl2]; exact okl
      refine ⟨t, _, rfl, SqT.of upd_same, rfl, _, _, rfl, _, _, rfl, rfl, ?_⟩
      refine ⟨_, rfl, _, rfl, _, rfl, ?_⟩
      refine ⟨q, ia, M, l, xs, zs, rfl, s3 _ _ hq, hI.same s3, ⟨qs, st _ _ m2, f2.keep fun p xs z => st _ _ z⟩, okl', fo, ?_⟩
      cases hv : l.value xs zs with
      | none =>
        rw [runFrom_zero hv] at hg
        rw [hg] at k
        intro H4 s4
        refine ⟨_, rfl, rfl, _, rfl, ?_⟩
        refine ifT rfl ?_
        refine ⟨_, rfl, (by show 3 ≤ sizeLine; decide), fun r hr => ?_⟩
        refine (k.later (s3.trans s4)).now ?_ hr
        rw [zl2]
        rfl
      | some v =>
        rw [runFrom_some hv] at hg
        intro H4 r s4 hr
        refine ⟨_, rfl, rfl, _, rfl, ?_⟩
        refine ifF rfl ?_
        refine ⟨_, rfl, r, v, rfl, SqT.of hr, _, _, rfl, rfl, _, rfl, ?_⟩
        by_cases cw : 4000 < Vagraa.weight v
        · rw [if_pos cw] at hg
          rw [hg] at k
          refine ifT (decide_eq_true (by omega)) ?_
          refine ⟨_, rfl, (by show 3 ≤ sizeLine; decide), fun u hu => ?_⟩
          refine (k.later (s3.trans s4)).now ?_ hu
          rw [zl2]
          rfl
        · rw [if_neg cw] at hg
          refine ifF (decide_eq_false (by omega)) ?_
          have m4 := s4 _ _ (st _ _ m2)
          have f4 : Fracs H4 qs zs := f2.keep fun p xs z => s4 _ _ (st _ _ z)
          refine ⟨_, rfl, .inl ⟨rfl, _, SqL.of m4⟩, _, rfl, M, _, _, rfl, rfl, m4, by rw [List.length_map, f2.len]; omega, ?_⟩
          have B : But H4 (upd H4 M (.lst (qs.map V.ref ++ [V.ref r]))) M := fun x o z y => (upd_ne y).trans z
          refine ⟨_, _, _, _, _, qs ++ [r], zs ++ [v], rfl, fun x o z => B _ _ (s4 _ _ (s3 _ _ z)) (ne_of_none z hM), by rw [upd_same]; simp, (f4.keep fun p xs z => B _ _ z (ne_of z m4 nofun)).snoc (B _ _ hr (ne_of hr m4 nofun)), by simp [zl2], fun a ha => ?_, hg⟩
          rcases List.mem_append.mp ha with ha | ha
          · exact fo a ha
          · obtain rfl : a = v := by simpa using ha
            exact ⟨value_low okl' hx rfl fo hv, small_of cw⟩
  · rintro σ H2 ⟨a, b, c, d, e, qs, zs, rfl, s2, m2, f2, zl2, fo, hg⟩
    rw [List.length_map, lp] at zl2 hg
    rw [List.drop_length] at hg
    have hg : VagraLine.runFrom (some Vagrai.LONG) xs [] p.code = .ok zs := hg
    rw [hg] at k
    have k : GiveL H Q ((0 :: (p.outs.length : Int) :: VagraLine.fracsTold (p.outs.map (VagraLine.at_ zs))).map V.int) := k
    have P2 := hP.same s2
    -- outcome = [0, len(program.outs)]
    refine ⟨_, rfl, pa, _, dp, _, _, rfl, P2.obj, T.cl_Program, T.n_Program_outs, lk_outs _ _ _, po, _, rfl, .inl (SqL.of P2.outs), (by show 2 ≤ sizeLine; decide), fun R hR => ?_⟩
    have sR := same_upd (o := .lst [V.int 0, V.int (((p.outs.map natV).length : Nat) : Int)]) hR
    have RM : M ≠ R := ne_of_none m2 hR
    refine ⟨_, rfl, pa, _, dp, _, _, rfl, sR _ _ P2.obj, T.cl_Program, T.n_Program_outs, lk_outs _ _ _, po, rfl, ⟨_, SqL.of (sR _ _ P2.outs)⟩, for_list (K := K) (a := po) (xs := p.outs.map natV)
      (fun i σ H' => ∃ (a b c e : Option V), σ = [some (.ref pa), some (.ref ia), some (.ref M), a, b, c, some (.ref R), e] ∧ Same H2 H' ∧ H' R = some (.lst ((0 :: (p.outs.length : Int) :: VagraLine.fracsTold ((p.outs.take i).map (VagraLine.at_ zs))).map V.int)))
      ⟨_, _, _, _, rfl, sR, by rw [upd_same]; simp [VagraLine.fracsTold]⟩ (fun i σ H' _ ⟨_, _, _, _, _, b, _⟩ => SqL.of (b _ _ P2.outs)) ?_ ?_⟩
    · rintro i y σ H3 hi ⟨a, b, c, e, rfl, s3, r3⟩
      rw [List.getElem?_map] at hi
      cases hp : p.outs[i]? with
      | none => rw [hp] at hi; cases hi
      | some o =>
        rw [hp] at hi
        obtain rfl : natV o = y := Option.some.inj hi
        have il : i < p.outs.length := (List.getElem?_eq_some_iff.mp hp).1
        have ho := ok.outs o (List.mem_of_getElem? hp)
        obtain ⟨q, e1, e2⟩ := f2.get (at_get (c := zs) (i := o) (by omega))
        refine ⟨_, rfl, .inl ⟨rfl, _, SqL.of r3⟩, ?_⟩
        refine ⟨_, rfl, _, rfl, M, _, (o : Int), V.ref q, rfl, rfl, SqL.of (s3 _ _ m2), atI_nat (by rw [List.getElem?_map, e1]; rfl), ?_⟩
        have fl : ∀ (l : List Frac), (VagraLine.fracsTold l).length = 2 * l.length := fun l => by
          induction l with
          | nil => rfl
          | cons x r ih =>
            show ([x.num, (x.den : Int)] ++ VagraLine.fracsTold r).length = _
            rw [List.length_append, ih]
            simp
            omega
        refine ⟨R, q, _, _, rfl, rfl, r3, SqT.of (s3 _ _ e2), ?_, ?_⟩
        · rw [List.length_map, List.length_cons, List.length_cons, fl]
          simp [fracV]
          omega
        · refine ⟨_, _, _, _, rfl, fun x u z => by rw [upd_ne (ne_of_none z hR)]; exact s3 _ _ z, ?_⟩
          rw [upd_same, take_snoc hp, List.map_append]
          refine congrArg (fun q => some (HO.lst q)) ?_
          show _ = (0 :: (p.outs.length : Int) :: VagraLine.fracsTold ((p.outs.take i).map (VagraLine.at_ zs) ++ [VagraLine.at_ zs o])).map V.int
          rw [fracsTold_snoc]
          simp [fracV]
    · rintro σ H3 ⟨a, b, c, e, rfl, s3, r3⟩
      rw [List.length_map, List.take_length] at r3
      exact ⟨_, rfl, k H3 R (s2.trans s3) (s2.free hR) r3⟩
end Lc
set_option Elab.async false
set_option linter.all false
set_option maxRecDepth 100000
set_option maxHeartbeats 4000000
namespace Lc
open PySem PySem.Spec PyProof.Rows L2
open Vagraa (Frac frac)
open VagraLine (Line)
open Vagrai (Prog Work)
variable {P : Program} {w : World} {K : PySem.W.Frag} {mg : Str → Option Value} {base : Heap} {D : Ad}
/-- Refusal.__init__ at a new exception of a class below it -/
def spRI (K : PySem.W.Frag) (S : Addr) : Sp := fun vs H Q _ => ∃ (a C : Addr) (n : Int), vs = [.ref a, .int n] ∧ XC K C S ∧ H a = some (exo a C none) ∧ ∀ d, H d = none → d ≠ a → Q .non (upd (upd H d (exd d (numD n))) a (exo a C (some d)))
theorem ok_Refusal_init (T : Txt K mg D) : FnOk P w K mg base CX0 1 D.a_Refusal_init D.d_Refusal_init P_Refusal_init (spRI K D.c_Refusal) := by
  refine T.F_Refusal_init.ok sc_Refusal_init (fun vs H Q E h => by first | (obtain ⟨rfl, _⟩ := h; rfl) | (obtain ⟨_, rfl, _⟩ := h; rfl) | (obtain ⟨_, _, rfl, _⟩ := h; rfl) | (obtain ⟨_, _, _, rfl, _⟩ := h; rfl) | (obtain ⟨_, _, _, _, rfl, _⟩ := h; rfl) | (obtain ⟨_, _, _, _, _, rfl, _⟩ := h; rfl) | (obtain ⟨_, _, _, _, _, _, rfl, _⟩ := h; rfl) | (obtain ⟨_, _, _, _, _, _, _, rfl, _⟩ := h; rfl) | (obtain ⟨_, _, _, _, _, _, _, _, rfl, _⟩ := h; rfl) | (obtain ⟨_, _, _, _, _, _, _, _, _, rfl, _⟩ := h; rfl) | (obtain ⟨_, _, _, _, _, _, _, _, _, _, rfl, _⟩ := h; rfl) | (obtain ⟨_, _, _, _, _, _, _, _, _, _, _, rfl, _⟩ := h; rfl) | (obtain ⟨_, _, _, _, _, _, _, _, _, _, _, _, rfl, _⟩ := h; rfl)) (fun cdv A outer s H vs Q E hr h => ?_)
  refine ⟨_, (pss_cons (ps_expr (pe_excI (S := D.c_Refusal) rfl T.f_Exception T.exI (pa_cons (pv 0) (pa_cons (pv 1) pa_nil))))
    (pss_one (ps_num (S := D.c_Refusal) (pv 0) (pv 1)))), ?_⟩
  obtain ⟨a, C, n, rfl, hx, ha, k⟩ := h
  refine ⟨_, rfl, _, rfl, a, C, [.int n], rfl, (by show 1 ≤ 1000; decide), hx, ha, ?_⟩
  exact ⟨_, rfl, _, rfl, a, C, n, rfl, rfl, hx, ha, fun d hd hda => k d hd hda⟩
theorem ok_OutOfRange_init (T : Txt K mg D) : FnOk P w K mg base CX0 2 D.a_OutOfRange_init D.d_OutOfRange_init P_OutOfRange_init (spXI K D.c_Refusal (-1)) := by
  have G_Refusal_init := ok_Refusal_init (P := P) (w := w) (base := base) T
  refine T.F_OutOfRange_init.ok sc_OutOfRange_init (fun vs H Q E h => by first | (obtain ⟨rfl, _⟩ := h; rfl) | (obtain ⟨_, rfl, _⟩ := h; rfl) | (obtain ⟨_, _, rfl, _⟩ := h; rfl) | (obtain ⟨_, _, _, rfl, _⟩ := h; rfl) | (obtain ⟨_, _, _, _, rfl, _⟩ := h; rfl) | (obtain ⟨_, _, _, _, _, rfl, _⟩ := h; rfl) | (obtain ⟨_, _, _, _, _, _, rfl, _⟩ := h; rfl) | (obtain ⟨_, _, _, _, _, _, _, rfl, _⟩ := h; rfl) | (obtain ⟨_, _, _, _, _, _, _, _, rfl, _⟩ := h; rfl) | (obtain ⟨_, _, _, _, _, _, _, _, _, rfl, _⟩ := h; rfl) | (obtain ⟨_, _, _, _, _, _, _, _, _, _, rfl, _⟩ := h; rfl) | (obtain ⟨_, _, _, _, _, _, _, _, _, _, _, rfl, _⟩ := h; rfl) | (obtain ⟨_, _, _, _, _, _, _, _, _, _, _, _, rfl, _⟩ := h; rfl)) (fun cdv A outer s H vs Q E hr h => ?_)
  refine ⟨_, (pss_one (ps_expr (pe_clsfn G_Refusal_init (hr.mono (by decide)) rfl T.g_Refusal T.cf_Refusal_init T.F_Refusal_init.kp (b_Refusal_init T) .nil pass0 (pa_cons (pv 0) (pa_cons (pe_un un_neg pe_int) pa_nil))))), ?_⟩
  obtain ⟨a, C, rfl, hx, ha, k⟩ := h
  exact ⟨_, rfl, _, rfl, a, C, -1, rfl, hx, ha, fun d hd hda => k d hd hda⟩
theorem ok_BadForm_init (T : Txt K mg D) : FnOk P w K mg base CX0 2 D.a_BadForm_init D.d_BadForm_init P_BadForm_init (spXI K D.c_Refusal (-2)) := by
  have G_Refusal_init := ok_Refusal_init (P := P) (w := w) (base := base) T
  refine T.F_BadForm_init.ok sc_BadForm_init (fun vs H Q E h => by first | (obtain ⟨rfl, _⟩ := h; rfl) | (obtain ⟨_, rfl, _⟩ := h; rfl) | (obtain ⟨_, _, rfl, _⟩ := h; rfl) | (obtain ⟨_, _, _, rfl, _⟩ := h; rfl) | (obtain ⟨_, _, _, _, rfl, _⟩ := h; rfl) | (obtain ⟨_, _, _, _, _, rfl, _⟩ := h; rfl) | (obtain ⟨_, _, _, _, _, _, rfl, _⟩ := h; rfl) | (obtain ⟨_, _, _, _, _, _, _, rfl, _⟩ := h; rfl) | (obtain ⟨_, _, _, _, _, _, _, _, rfl, _⟩ := h; rfl) | (obtain ⟨_, _, _, _, _, _, _, _, _, rfl, _⟩ := h; rfl) | (obtain ⟨_, _, _, _, _, _, _, _, _, _, rfl, _⟩ := h; rfl) | (obtain ⟨_, _, _, _, _, _, _, _, _, _, _, rfl, _⟩ := h; rfl) | (obtain ⟨_, _, _, _, _, _, _, _, _, _, _, _, rfl, _⟩ := h; rfl)) (fun cdv A outer s H vs Q E hr h => ?_)
  refine ⟨_, (pss_one (ps_expr (pe_clsfn G_Refusal_init (hr.mono (by decide)) rfl T.g_Refusal T.cf_Refusal_init T.F_Refusal_init.kp (b_Refusal_init T) .nil pass0 (pa_cons (pv 0) (pa_cons (pe_un un_neg pe_int) pa_nil))))), ?_⟩
  obtain ⟨a, C, rfl, hx, ha, k⟩ := h
  exact ⟨_, rfl, _, rfl, a, C, -2, rfl, hx, ha, fun d hd hda => k d hd hda⟩
theorem ok_NotThere_init (T : Txt K mg D) : FnOk P w K mg base CX0 2 D.a_NotThere_init D.d_NotThere_init P_NotThere_init (spXI K D.c_Refusal (-3)) := by
  have G_Refusal_init := ok_Refusal_init (P := P) (w := w) (base := base) T
  refine T.F_NotThere_init.ok sc_NotThere_init (fun vs H Q E h => by first | (obtain ⟨rfl, _⟩ := h; rfl) | (obtain ⟨_, rfl, _⟩ := h; rfl) | (obtain ⟨_, _, rfl, _⟩ := h; rfl) | (obtain ⟨_, _, _, rfl, _⟩ := h; rfl) | (obtain ⟨_, _, _, _, rfl, _⟩ := h; rfl) | (obtain ⟨_, _, _, _, _, rfl, _⟩ := h; rfl) | (obtain ⟨_, _, _, _, _, _, rfl, _⟩ := h; rfl) | (obtain ⟨_, _, _, _, _, _, _, rfl, _⟩ := h; rfl) | (obtain ⟨_, _, _, _, _, _, _, _, rfl, _⟩ := h; rfl) | (obtain ⟨_, _, _, _, _, _, _, _, _, rfl, _⟩ := h; rfl) | (obtain ⟨_, _, _, _, _, _, _, _, _, _, rfl, _⟩ := h; rfl) | (obtain ⟨_, _, _, _, _, _, _, _, _, _, _, rfl, _⟩ := h; rfl) | (obtain ⟨_, _, _, _, _, _, _, _, _, _, _, _, rfl, _⟩ := h; rfl)) (fun cdv A outer s H vs Q E hr h => ?_)
  refine ⟨_, (pss_one (ps_expr (pe_clsfn G_Refusal_init (hr.mono (by decide)) rfl T.g_Refusal T.cf_Refusal_init T.F_Refusal_init.kp (b_Refusal_init T) .nil pass0 (pa_cons (pv 0) (pa_cons (pe_un un_neg pe_int) pa_nil))))), ?_⟩
  obtain ⟨a, C, rfl, hx, ha, k⟩ := h
  exact ⟨_, rfl, _, rfl, a, C, -3, rfl, hx, ha, fun d hd hda => k d hd hda⟩
theorem ok_TooLarge_init (T : Txt K mg D) : FnOk P w K mg base CX0 2 D.a_TooLarge_init D.d_TooLarge_init P_TooLarge_init (spXI K D.c_Refusal (-7)) := by
  have G_Refusal_init := ok_Refusal_init (P := P) (w := w) (base := base) T
  refine T.F_TooLarge_init.ok sc_TooLarge_init (fun vs H Q E h => by first | (obtain ⟨rfl, _⟩ := h; rfl) | (obtain ⟨_, rfl, _⟩ := h; rfl) | (obtain ⟨_, _, rfl, _⟩ := h; rfl) | (obtain ⟨_, _, _, rfl, _⟩ := h; rfl) | (obtain ⟨_, _, _, _, rfl, _⟩ := h; rfl) | (obtain ⟨_, _, _, _, _, rfl, _⟩ := h; rfl) | (obtain ⟨_, _, _, _, _, _, rfl, _⟩ := h; rfl) | (obtain ⟨_, _, _, _, _, _, _, rfl, _⟩ := h; rfl) | (obtain ⟨_, _, _, _, _, _, _, _, rfl, _⟩ := h; rfl) | (obtain ⟨_, _, _, _, _, _, _, _, _, rfl, _⟩ := h; rfl) | (obtain ⟨_, _, _, _, _, _, _, _, _, _, rfl, _⟩ := h; rfl) | (obtain ⟨_, _, _, _, _, _, _, _, _, _, _, rfl, _⟩ := h; rfl) | (obtain ⟨_, _, _, _, _, _, _, _, _, _, _, _, rfl, _⟩ := h; rfl)) (fun cdv A outer s H vs Q E hr h => ?_)
  refine ⟨_, (pss_one (ps_expr (pe_clsfn G_Refusal_init (hr.mono (by decide)) rfl T.g_Refusal T.cf_Refusal_init T.F_Refusal_init.kp (b_Refusal_init T) .nil pass0 (pa_cons (pv 0) (pa_cons (pe_un un_neg pe_int) pa_nil))))), ?_⟩
  obtain ⟨a, C, rfl, hx, ha, k⟩ := h
  exact ⟨_, rfl, _, rfl, a, C, -7, rfl, hx, ha, fun d hd hda => k d hd hda⟩
def spChoice (K : PySem.W.Frag) (S : Addr) : Sp := fun vs H Q E => ∃ x m : Int, vs = [.int x, .int m] ∧ (¬ (0 ≤ x ∧ x ≤ m) → RaiseN K S H E (-1)) ∧ (0 ≤ x ∧ x ≤ m → Q .non H)
theorem ok_check_choice (T : Txt K mg D) : FnOk P w K mg base (L2.CX P w) 4 D.a_check_choice D.d_check_choice P_check_choice (spChoice K D.c_Refusal) := by
  have G_OutOfRange_init := ok_OutOfRange_init (P := P) (w := w) (base := base) T
  refine T.F_check_choice.okX sc_check_choice (fun vs H Q E h => by first | (obtain ⟨rfl, _⟩ := h; rfl) | (obtain ⟨_, rfl, _⟩ := h; rfl) | (obtain ⟨_, _, rfl, _⟩ := h; rfl) | (obtain ⟨_, _, _, rfl, _⟩ := h; rfl) | (obtain ⟨_, _, _, _, rfl, _⟩ := h; rfl) | (obtain ⟨_, _, _, _, _, rfl, _⟩ := h; rfl) | (obtain ⟨_, _, _, _, _, _, rfl, _⟩ := h; rfl) | (obtain ⟨_, _, _, _, _, _, _, rfl, _⟩ := h; rfl) | (obtain ⟨_, _, _, _, _, _, _, _, rfl, _⟩ := h; rfl) | (obtain ⟨_, _, _, _, _, _, _, _, _, rfl, _⟩ := h; rfl) | (obtain ⟨_, _, _, _, _, _, _, _, _, _, rfl, _⟩ := h; rfl) | (obtain ⟨_, _, _, _, _, _, _, _, _, _, _, rfl, _⟩ := h; rfl) | (obtain ⟨_, _, _, _, _, _, _, _, _, _, _, _, rfl, _⟩ := h; rfl)) (fun cdv A outer s H vs Q E hr h => ?_)
  refine ⟨_, (pss_one (ps_if (PW.pt (pw_or (pt_cmpR op_lt (pv 0) pe_int (nomark _)) (pw_or1 (pt_cmpR op_gt (pv 0) (pv 1) (nomark _))))) (pss_one (ps_raiseR rfl T.x_OutOfRange T.y_OutOfRange G_OutOfRange_init (hr.mono (by decide)) (b_OutOfRange_init T) pass0 rfl T.g_OutOfRange (takes_of rfl rfl rfl rfl))) pss_nil)), ?_⟩
  obtain ⟨x, m, rfl, k1, k2⟩ := h
  refine ⟨_, rfl, _, _, rfl, rfl, _, rfl, ?_⟩
  by_cases c : x < 0
  · refine ifT (decide_eq_true c) ?_
    refine ifT rfl ?_
    exact fun d hd => (k1 (by omega)).now T.x_OutOfRange d hd
  · refine ifF (decide_eq_false c) ?_
    refine ⟨_, rfl, _, rfl, _, _, rfl, rfl, _, rfl, ?_⟩
    by_cases c2 : m < x
    · refine ifT (decide_eq_true c2) ?_
      exact fun d hd => (k1 (by omega)).now T.x_OutOfRange d hd
    · refine ifF (decide_eq_false c2) ?_
      exact k2 (by omega)
theorem size_at {k : Int} (h0 : 0 ≤ k) (h6 : k ≤ 6) : atI ([.int 1, .int 2, .int 2, .int 2, .int 2, .int 2, .int 1] : List V) k = some (.int (sizeOf k : Nat)) := by
  rcases kinds h0 h6 with rfl | rfl | rfl | rfl | rfl | rfl | rfl <;> rfl
theorem lineOf_short {k : Int} {ns : List Int} (h : ns.length < sizeOf k) : lineOf k ns = none := by
  unfold sizeOf at h
  unfold lineOf
  match ns with
  | [] => simp
  | [a] =>
    by_cases c : k = 0 ∨ k = 6
    · rw [if_pos c] at h; simp at h
    · by_cases c1 : k = 1
      · simp [c1]
      · rw [if_neg c1, if_neg (fun z => c (.inl z)), if_neg (fun z => c (.inr z))]
  | a :: b :: r =>
    simp only [List.length_cons] at h
    split at h <;> omega
theorem lineOf_num {n d : Int} : lineOf 1 [n, d] = if d < 1 then none else some (.num (frac n d.toNat)) := rfl
theorem lineOf_else {k : Int} {ns : List Int} (h0 : 0 ≤ k) (h6 : k ≤ 6) (h1 : k ≠ 1) (hl : ns.length = sizeOf k) : (lineOf k ns = none ↔ ∃ x ∈ ns, x < 0) ∧ ∀ l, lineOf k ns = some l → lineV l = .int k :: ns.map V.int := by
  unfold sizeOf at hl
  unfold lineOf
  rw [if_neg h1]
  match ns with
  | [] => split at hl <;> simp at hl
  | [a] =>
    have c : k = 0 ∨ k = 6 := by
      by_cases c : k = 0 ∨ k = 6
      · exact c
      · rw [if_neg c] at hl; simp at hl
    rcases c with rfl | rfl
    · by_cases ha : a < 0
      · simp [ha]
      · have e : ((a.toNat : Nat) : Int) = a := by omega
        simp [ha, lineV, VagraLine.Line.told, e]
    · by_cases ha : a < 0
      · simp [ha]
      · have e : ((a.toNat : Nat) : Int) = a := by omega
        simp [ha, lineV, VagraLine.Line.told, e]
  | [a, b] =>
    have c : ¬ (k = 0 ∨ k = 6) := fun z => by rw [if_pos z] at hl; simp at hl
    rw [if_neg (fun z => c (.inl z)), if_neg (fun z => c (.inr z))]
    by_cases ha : a < 0 ∨ b < 0
    · simp [ha]
    · have e : ((a.toNat : Nat) : Int) = a := by omega
      have e2 : ((b.toNat : Nat) : Int) = b := by omega
      have k5 : k = 2 ∨ k = 3 ∨ k = 4 ∨ k = 5 := by omega
      rcases k5 with rfl | rfl | rfl | rfl <;> simp [ha, lineV, VagraLine.Line.told, op2, e, e2]
  | a :: b :: c :: r =>
    simp only [List.length_cons] at hl
    split at hl <;> omega
def spReadLine (K : PySem.W.Frag) (S : Addr) : Sp := fun vs H Q E => ∃ (k : Int) (p : Addr) (ns : List Int), vs = [.int k, .ref p] ∧ SqL K H p (ns.map V.int) ∧ 0 ≤ k ∧ k ≤ 6 ∧ ns.length ≤ sizeOf k ∧ (∀ x ∈ ns, x.natAbs < 2 ^ 4000) ∧
  (lineOf k ns = none → RaiseN K S H E (-2)) ∧ (∀ l, lineOf k ns = some l → GiveT H Q (lineV l))
theorem ok_read_line (T : Txt K mg D) : FnOk P w K mg base (L2.CX P w) 4 D.a_read_line D.d_read_line P_read_line (spReadLine K D.c_Refusal) := by
  have G_BadForm_init := ok_BadForm_init (P := P) (w := w) (base := base) T
  have G_lowest := ok_lowest (P := P) (w := w) (base := base) T
  obtain ⟨t_CONSTANT, v_CONSTANT⟩ := T.v_CONSTANT
  refine T.F_read_line.okX sc_read_line (fun vs H Q E h => by first | (obtain ⟨rfl, _⟩ := h; rfl) | (obtain ⟨_, rfl, _⟩ := h; rfl) | (obtain ⟨_, _, rfl, _⟩ := h; rfl) | (obtain ⟨_, _, _, rfl, _⟩ := h; rfl) | (obtain ⟨_, _, _, _, rfl, _⟩ := h; rfl) | (obtain ⟨_, _, _, _, _, rfl, _⟩ := h; rfl) | (obtain ⟨_, _, _, _, _, _, rfl, _⟩ := h; rfl) | (obtain ⟨_, _, _, _, _, _, _, rfl, _⟩ := h; rfl) | (obtain ⟨_, _, _, _, _, _, _, _, rfl, _⟩ := h; rfl) | (obtain ⟨_, _, _, _, _, _, _, _, _, rfl, _⟩ := h; rfl) | (obtain ⟨_, _, _, _, _, _, _, _, _, _, rfl, _⟩ := h; rfl) | (obtain ⟨_, _, _, _, _, _, _, _, _, _, _, rfl, _⟩ := h; rfl) | (obtain ⟨_, _, _, _, _, _, _, _, _, _, _, _, rfl, _⟩ := h; rfl)) (fun cdv A outer s H vs Q E hr h => ?_)
  refine ⟨_, (pss_cons (ps_if (pt_cmpR op_lt (pe_callB call_len_seq (by rfl) T.f_len PySem.boot_len (pa_cons (pv 1) pa_nil)) (pe_ix ix_tup (pe_glob (v := .ref D.k_SIZES) rfl T.v_SIZES rfl) (pv 0) (fun _ _ => rfl)) (nomark _)) (pss_one (ps_raiseR rfl T.x_BadForm T.y_BadForm G_BadForm_init (hr.mono (by decide)) (b_BadForm_init T) pass0 rfl T.g_BadForm (takes_of rfl rfl rfl rfl))) pss_nil)
    (pss_cons (ps_if (pt_cmpR op_eq (pv 0) (pe_glob (v := .int 1) rfl v_CONSTANT ⟨_, rfl⟩) (nomark _)) (pss_cons (ps_if (pt_cmpR op_lt (pe_ix ix_list (pv 1) pe_int (fun _ _ => rfl)) pe_int (nomark _)) (pss_one (ps_raiseR rfl T.x_BadForm T.y_BadForm G_BadForm_init (hr.mono (by decide)) (b_BadForm_init T) pass0 rfl T.g_BadForm (takes_of rfl rfl rfl rfl))) pss_nil)
      (pss_one (ps_ret (pe_op op_catA (pe_tup (pa_cons (pv 0) pa_nil)) (pe_call G_lowest (hr.mono (by decide)) rfl T.g_lowest T.F_lowest.kp (b_lowest T) .nil pass0 (pa_cons (pe_ix ix_list (pv 1) pe_int (fun _ _ => rfl)) (pa_cons (pe_ix ix_list (pv 1) pe_int (fun _ _ => rfl)) pa_nil))))))) pss_nil)
    (pss_cons (ps_if (pt_cmpR op_lt (pe_callB (cr_min rfl) (by rfl) T.f_min (by decide +kernel) (pa_cons (pv 1) pa_nil)) pe_int (nomark _)) (pss_one (ps_raiseR rfl T.x_BadForm T.y_BadForm G_BadForm_init (hr.mono (by decide)) (b_BadForm_init T) pass0 rfl T.g_BadForm (takes_of rfl rfl rfl rfl))) pss_nil)
    (pss_one (ps_ret (pe_op op_catA (pe_tup (pa_cons (pv 0) pa_nil)) (pe_callTy call_tuple_of (by rfl) T.f_tuple (by decide +kernel) (pa_cons (pv 1) pa_nil)))))))), ?_⟩
  obtain ⟨k, p, ns, rfl, hp, h0, h6, hl, hb, kr, ks⟩ := h
  refine ⟨_, rfl, _, _, rfl, .inl hp, _, rfl, _, _, _, _, rfl, rfl, T.t_SIZES _, size_at h0 h6, _, _, rfl, rfl, _, rfl, ?_⟩
  by_cases c : (((ns.map V.int).length : Nat) : Int) < (sizeOf k : Nat)
  · refine ifT (decide_eq_true c) ?_
    rw [List.length_map] at c
    exact fun d hd => (kr (lineOf_short (by omega))).now T.x_BadForm d hd
  refine ifF (decide_eq_false c) ?_
  rw [List.length_map] at c
  have hl : ns.length = sizeOf k := by omega
  refine ⟨_, rfl, rfl, _, rfl, ?_⟩
  by_cases c1 : k = 1
  · subst c1
    refine ifT rfl ?_
    match ns, hl with
    | [n, d], _ =>
      have bn := hb n (by simp)
      have bd := hb d (by simp)
      refine ⟨_, rfl, _, _, (1 : Int), .int d, rfl, rfl, hp, rfl, _, _, rfl, rfl, _, rfl, ?_⟩
      by_cases c2 : d < 1
      · refine ifT (decide_eq_true c2) ?_
        exact fun q hq => (kr (by rw [lineOf_num, if_pos c2])).now T.x_BadForm q hq
      · refine ifF (decide_eq_false c2) ?_
        have e : ((d.toNat : Nat) : Int) = d := by omega
        have kg := ks (.num (frac n d.toNat)) (by rw [lineOf_num, if_neg c2])
        refine ⟨_, rfl, (by show 1 ≤ sizeLine; decide), fun t1 n1 => ?_⟩
        have s1 := same_upd (o := .tup [V.int 1]) n1
        have hp1 : SqL K (upd H t1 (.tup [V.int 1])) p ([n, d].map V.int) := s1.seq hp
        refine ⟨_, rfl, _, _, (0 : Int), .int n, rfl, rfl, hp1, rfl, _, rfl, _, _, (1 : Int), .int d, rfl, rfl, hp1, rfl, ?_⟩
        refine ⟨n, d.toNat, by rw [e]; rfl, by omega, by omega, fun H2 t2 s2 n2 h2 => ?_⟩
        refine ⟨t1, t2, _, _, rfl, rfl, SqT.of (s2 _ _ upd_same), SqT.of h2, (by show 1 + 2 ≤ sizeLine; decide), nofun, nofun, fun _ _ q hq => ?_⟩
        exact (kg.later (s1.trans s2)).now rfl hq
  · refine ifF (decide_eq_false fun z => c1 (by injection z)) ?_
    obtain ⟨hn, hs⟩ := lineOf_else h0 h6 c1 hl
    have pos : 0 < ns.length := by rw [hl]; unfold sizeOf; split <;> decide
    refine ⟨_, rfl, _, ns, rfl, hp, pos, fun m hm hmin => ?_⟩
    refine ⟨_, _, rfl, rfl, _, rfl, ?_⟩
    by_cases c2 : m < 0
    · refine ifT (decide_eq_true c2) ?_
      exact fun d hd => (kr (hn.mpr ⟨m, hm, c2⟩)).now T.x_BadForm d hd
    · refine ifF (decide_eq_false c2) ?_
      have e : ∃ l, lineOf k ns = some l := by
        cases z : lineOf k ns with
        | some l => exact ⟨l, rfl⟩
        | none =>
          obtain ⟨x, hx, hx0⟩ := hn.mp z
          have := hmin x hx
          omega
      obtain ⟨l, el⟩ := e
      have kg := ks l el
      refine ⟨_, rfl, (by show 1 ≤ sizeLine; decide), fun t1 n1 => ?_⟩
      have s1 := same_upd (o := .tup [V.int k]) n1
      refine ⟨_, rfl, _, _, rfl, .inl ⟨s1.seq hp, fun t2 n2 => ?_⟩⟩
      have s2 := same_upd (o := .tup (ns.map V.int)) n2
      have nn : ns.map V.int ≠ [] := fun z => by rw [List.map_eq_nil_iff.mp z] at pos; simp at pos
      have sz : sizeOf k ≤ 2 := by unfold sizeOf; split <;> decide
      refine ⟨t1, t2, _, _, rfl, rfl, SqT.of (s2 _ _ upd_same), SqT.of upd_same, by have : sizeLine = 16777216 := rfl; simp; omega, nofun, fun _ z => absurd z nn, fun _ _ q hq => ?_⟩
      exact (kg.later (s1.trans s2)).now (by rw [hs l el]; rfl) hq
theorem cut_nat (xs : List V) (a b : Nat) : cutV xs (some (a : Int)) (some (b : Int)) = (xs.drop a).take (b - a) := by
  unfold cutV
  have e : ∀ (n : Nat), HT.sIx xs.length n (some (a : Int)) = min a xs.length := fun n => by unfold HT.sIx; simp; omega
  have e2 : ∀ (n : Nat), HT.sIx xs.length n (some (b : Int)) = min b xs.length := fun n => by unfold HT.sIx; simp; omega
  rw [e, e2]
  rcases Nat.le_total a xs.length with h | h
  · rw [Nat.min_eq_left h]
    rcases Nat.le_total b xs.length with h2 | h2
    · rw [Nat.min_eq_left h2]
    · rw [Nat.min_eq_right h2, List.take_of_length_le (by simp), List.take_of_length_le (by simp; omega)]
  · rw [Nat.min_eq_right h, List.drop_of_length_le (Nat.le_refl _), List.drop_of_length_le h]
    simp
def muRL (n : Nat) : L2.St → Hp → Nat := fun σ _ => match σ with
  | [_, _, some (.int a), _, _] => n - a.toNat
  | _ => 0
def spReadLines (K : PySem.W.Frag) (S : Addr) : Sp := fun vs H Q E => ∃ (p : Addr) (ns : List Int), vs = [.ref p] ∧ SqL K H p (ns.map V.int) ∧ ns.length ≤ 1000000 ∧ (∀ x ∈ ns, x.natAbs < 2 ^ 4000) ∧
  (codeIn ns = none → RaiseN K S H E (-2)) ∧ (∀ c, codeIn ns = some c → ∀ (H' : Hp) (q : Addr), Same H H' → H q = none → LinesAt H' q c → Q (.ref q) H')
theorem ok_read_lines (T : Txt K mg D) : FnOk P w K mg base (L2.CX P w) 5 D.a_read_lines D.d_read_lines P_read_lines (spReadLines K D.c_Refusal) := by
  have G_BadForm_init := ok_BadForm_init (P := P) (w := w) (base := base) T
  have G_read_line := ok_read_line (P := P) (w := w) (base := base) T
  obtain ⟨t_OPPOSITE, v_OPPOSITE⟩ := T.v_OPPOSITE
  obtain ⟨t_INPUT, v_INPUT⟩ := T.v_INPUT
  refine T.F_read_lines.okX sc_read_lines (fun vs H Q E h => by first | (obtain ⟨rfl, _⟩ := h; rfl) | (obtain ⟨_, rfl, _⟩ := h; rfl) | (obtain ⟨_, _, rfl, _⟩ := h; rfl) | (obtain ⟨_, _, _, rfl, _⟩ := h; rfl) | (obtain ⟨_, _, _, _, rfl, _⟩ := h; rfl) | (obtain ⟨_, _, _, _, _, rfl, _⟩ := h; rfl) | (obtain ⟨_, _, _, _, _, _, rfl, _⟩ := h; rfl) | (obtain ⟨_, _, _, _, _, _, _, rfl, _⟩ := h; rfl) | (obtain ⟨_, _, _, _, _, _, _, _, rfl, _⟩ := h; rfl) | (obtain ⟨_, _, _, _, _, _, _, _, _, rfl, _⟩ := h; rfl) | (obtain ⟨_, _, _, _, _, _, _, _, _, _, rfl, _⟩ := h; rfl) | (obtain ⟨_, _, _, _, _, _, _, _, _, _, _, rfl, _⟩ := h; rfl) | (obtain ⟨_, _, _, _, _, _, _, _, _, _, _, _, rfl, _⟩ := h; rfl)) (fun cdv A outer s H vs Q E hr h => ?_)
  refine ⟨_, (pss_cons (ps_set (i := 1) sc_read_lines.nd rfl (.inl rfl) (pe_lst pa_nil))
    (pss_cons (ps_set (i := 2) sc_read_lines.nd rfl (.inl rfl) pe_int)
    (pss_cons (ps_while (passes_of rfl) (pt_cmpR op_lt (pv 2) (pe_callB call_len_seq (by rfl) T.f_len PySem.boot_len (pa_cons (pv 0) pa_nil)) (nomark _)) (pss_cons (ps_set (i := 3) sc_read_lines.nd rfl (.inl rfl) (pe_ix ix_list (pv 0) (pv 2) (fun _ _ => rfl)))
      (pss_cons (ps_if (PW.pt (pw_or (pt_cmpR op_lt (pv 3) (pe_glob (v := .int 0) rfl v_INPUT ⟨_, rfl⟩) (nomark _)) (pw_or1 (pt_cmpR op_gt (pv 3) (pe_glob (v := .int 6) rfl v_OPPOSITE ⟨_, rfl⟩) (nomark _))))) (pss_one (ps_raiseR rfl T.x_BadForm T.y_BadForm G_BadForm_init (hr.mono (by decide)) (b_BadForm_init T) pass0 rfl T.g_BadForm (takes_of rfl rfl rfl rfl))) pss_nil)
      (pss_cons (ps_set (i := 4) sc_read_lines.nd rfl (.inl rfl) (pe_op op_add (pe_op op_add (pv 2) pe_int) (pe_ix ix_tup (pe_glob (v := .ref D.k_SIZES) rfl T.v_SIZES rfl) (pv 3) (fun _ _ => rfl))))
      (pss_cons (ps_expr (pe_bm PySem.F.plainAttrs_list PySem.F.slot_list_append PySem.F.type_list_append mt_append (pv 1) (pa_cons (pe_call G_read_line (hr.mono (by decide)) rfl T.g_read_line T.F_read_line.kp (b_read_line T) .nil (passes_call (takes_of rfl rfl rfl rfl) (fun _ _ _ _ z => z)) (pa_cons (pv 3) (pa_cons (pe_slice sl_list (pv 0) (po_some (pe_op op_add (pv 2) pe_int)) (po_some (pv 4))) pa_nil))) pa_nil)))
      (pss_one (ps_set (i := 2) sc_read_lines.nd rfl (.inl rfl) (pv 4))))))))
    (pss_one (ps_ret (pv 1)))))), ?_⟩
  obtain ⟨p, ns, rfl, hp, hz, hb, kr, ks⟩ := h
  have zl : sizeLine = 16777216 := rfl
  refine ⟨(by show 0 ≤ sizeLine; decide), fun M hM => ?_⟩
  refine while_by (fun σ H' => ∃ (i : Nat) (a b : Option V) (qs : List Addr) (c : List Line), σ = [some (.ref p), some (.ref M), some (.int (i : Int)), a, b] ∧ Same H H' ∧ H' M = some (.lst (qs.map V.ref)) ∧ Lines H' qs c ∧ c.length ≤ i ∧ c.length ≤ ns.length ∧ i ≤ ns.length + 10 ∧
    codeIn ns = (codeIn (ns.drop i)).map (c ++ ·)) (muRL ns.length) ⟨0, none, none, [], [], rfl, same_upd hM, upd_same, Lines.nil _, Nat.le_refl _, Nat.zero_le _, by omega, by rw [List.drop_zero]; cases codeIn ns <;> simp⟩ ?_ ?_
  · rintro σ H1 ⟨i, a, b, qs, c, rfl, s1, m1, l1, ci, cl, ib, hg⟩
    have hp1 := s1.seq hp
    refine ⟨_, rfl, _, rfl, _, _, rfl, .inl hp1, _, _, rfl, rfl, _, rfl, ?_⟩
    by_cases lt : i < ns.length
    · have e1 : decide ((i : Int) < (((ns.map V.int).length : Nat) : Int)) = true := decide_eq_true (by rw [List.length_map]; omega)
      rw [e1]
      -- kind = numbers[at]
      obtain ⟨k, hk⟩ : ∃ k, ns[i]? = some k := ⟨ns[i], List.getElem?_eq_getElem lt⟩
      have hd : ns.drop i = k :: ns.drop (i + 1) := by
        rw [List.drop_eq_getElem_cons lt]
        rw [List.getElem?_eq_getElem lt] at hk
        rw [Option.some.inj hk]
      rw [hd] at hg
      refine ⟨_, rfl, _, rfl, p, _, (i : Int), V.int k, rfl, rfl, hp1, atI_nat (by rw [List.getElem?_map, hk]; rfl), ?_⟩
      refine ⟨_, rfl, _, _, rfl, rfl, _, rfl, ?_⟩
      have bad : (k < 0 ∨ 6 < k) → codeIn ns = none := fun h => by rw [hg, codeIn_bad _ h]; rfl
      by_cases c0 : k < 0
      · refine ifT (decide_eq_true c0) ?_
        refine ifT rfl ?_
        exact fun d hd => ((kr (bad (.inl c0))).later s1).now T.x_BadForm d hd
      refine ifF (decide_eq_false c0) ?_
      refine ⟨_, rfl, _, _, rfl, rfl, _, rfl, ?_⟩
      by_cases c6 : 6 < k
      · refine ifT (decide_eq_true c6) ?_
        exact fun d hd => ((kr (bad (.inr c6))).later s1).now T.x_BadForm d hd
      refine ifF (decide_eq_false c6) ?_
      have h0 : 0 ≤ k := by omega
      have h6 : k ≤ 6 := by omega
      rw [codeIn_step _ h0 h6] at hg
      have sz : sizeOf k ≤ 2 := by unfold sizeOf; split <;> decide
      -- end = at + 1 + SIZES[kind]
      refine ⟨_, rfl, _, _, rfl, rfl, _, rfl, _, _, _, _, rfl, rfl, T.t_SIZES _, size_at h0 h6, _, _, rfl, rfl, ?_⟩
      -- lines.append(read_line(kind, numbers[at + 1:end]))
      refine ⟨_, rfl, .inl ⟨rfl, _, SqL.of m1⟩, ?_⟩
      refine ⟨_, rfl, _, rfl, _, rfl, _, _, rfl, rfl, _, rfl, _, rfl, _, rfl, p, _, rfl, hp1, fun t nt => ?_⟩
      have ec : cutV (ns.map V.int) (some ((i : Int) + 1)) (some ((i : Int) + 1 + (sizeOf k : Nat))) = ((ns.drop (i + 1)).take (sizeOf k)).map V.int := by
        have x1 : (i : Int) + 1 = ((i + 1 : Nat) : Int) := by omega
        have x2 : (i : Int) + 1 + (sizeOf k : Nat) = ((i + 1 + sizeOf k : Nat) : Int) := by omega
        rw [x2, x1, cut_nat, List.map_take, List.map_drop]
        congr 1
        omega
      rw [ec]
      have st := same_upd (o := .lst (((ns.drop (i + 1)).take (sizeOf k)).map V.int)) nt
      refine ⟨k, t, _, rfl, SqL.of upd_same, h0, h6, by simp; omega, fun x hx => hb x (List.mem_of_mem_drop (List.mem_of_mem_take hx)), fun hn => ?_, fun l hl H2 r s2 nr hr => ?_⟩
      · rw [hn] at hg
        exact (kr hg).later (s1.trans st)
      · rw [hl] at hg
        have m2 := s2 _ _ (st _ _ m1)
        have lr : ((ns.drop (i + 1)).take (sizeOf k)).length = sizeOf k := by
          rcases Nat.lt_or_ge ((ns.drop (i + 1)).take (sizeOf k)).length (sizeOf k) with lt2 | ge2
          · rw [lineOf_short lt2] at hl; cases hl
          · have : ((ns.drop (i + 1)).take (sizeOf k)).length ≤ sizeOf k := by simp; omega
            omega
        have lr2 : i + 1 + sizeOf k ≤ ns.length := by
          have := lr
          rw [List.length_take, List.length_drop] at this
          have s1 : 1 ≤ sizeOf k := by unfold sizeOf; split <;> decide
          omega
        refine ⟨M, _, _, rfl, rfl, m2, by rw [List.length_map, l1.len]; omega, ?_⟩
        have B : But H2 (upd H2 M (.lst (qs.map V.ref ++ [V.ref r]))) M := fun x o z y => (upd_ne y).trans z
        refine ⟨_, rfl, ⟨i + 1 + sizeOf k, _, _, qs ++ [r], c ++ [l], rfl, fun x o z => B _ _ (s2 _ _ (st _ _ (s1 _ _ z))) (ne_of_none z hM), by rw [upd_same]; simp, (l1.keep fun x xs z => B _ _ (s2 _ _ (st _ _ z)) (ne_of z m1 nofun)).snoc (B _ _ hr (ne_of hr m2 nofun)), by simp; omega, by simp; omega, by omega, ?_⟩, ?_⟩
        · rw [hg, Option.bind_some, List.drop_drop]
          cases codeIn (ns.drop (i + 1 + sizeOf k)) <;> simp
        · show ns.length - ((i : Int) + 1 + (sizeOf k : Nat)).toNat < ns.length - ((i : Nat) : Int).toNat
          omega
    · have e1 : decide ((i : Int) < (((ns.map V.int).length : Nat) : Int)) = false := decide_eq_false (by rw [List.length_map]; omega)
      rw [e1]
      rw [List.drop_of_length_le (by omega)] at hg
      have hg : codeIn ns = some c := by rw [hg, codeIn_nil]; simp
      exact ⟨_, rfl, ks c hg H1 M s1 hM ⟨qs, m1, l1⟩⟩
  · rintro σ H1 Q1 Q2 hq ⟨v, e, v', e', p', ys, e3, e4, x, y, e5, e6, kk, e7, q⟩
    exact ⟨v, e, v', e', p', ys, e3, e4, x, y, e5, e6, kk, e7, hq _ _ q⟩
end Lc
set_option Elab.async false
set_option linter.all false
set_option maxRecDepth 100000
set_option maxHeartbeats 4000000
namespace Lc
open PySem PySem.Spec PyProof.Rows L2
open Vagraa (Frac frac)
open VagraLine (Line)
open Vagrai (Prog Work)
variable {P : Program} {w : World} {K : PySem.W.Frag} {mg : Str → Option Value} {base : Heap} {D : Ad}
theorem lineWell_other {n i : Nat} {l : Line} (h : kindOf l ≠ 0) : lineWell n i l = l.uses.all (fun u => decide (u < i)) := by
  unfold lineWell
  cases l <;> simp [kindOf] at h <;> simp
theorem lineWell_input {n i k : Nat} : lineWell n i (.input k) = decide (k < n) := by simp [lineWell, VagraLine.Line.uses]
def spUses (K : PySem.W.Frag) (S : Addr) : Sp := fun vs H Q E => ∃ (a : Addr) (n : Nat) (c : List Line), vs = [.ref a, .int (n : Int)] ∧ LinesAt H a c ∧ (VagraLine.well n c = false → RaiseN K S H E (-3)) ∧ (VagraLine.well n c = true → ∀ H' : Hp, Same H H' → Q .non H')
theorem ok_check_uses (T : Txt K mg D) : FnOk P w K mg base (L2.CX P w) 4 D.a_check_uses D.d_check_uses P_check_uses (spUses K D.c_Refusal) := by
  have G_NotThere_init := ok_NotThere_init (P := P) (w := w) (base := base) T
  have G_made_of := ok_made_of (P := P) (w := w) (base := base) T
  obtain ⟨t_INPUT, v_INPUT⟩ := T.v_INPUT
  refine T.F_check_uses.okX sc_check_uses (fun vs H Q E h => by first | (obtain ⟨rfl, _⟩ := h; rfl) | (obtain ⟨_, rfl, _⟩ := h; rfl) | (obtain ⟨_, _, rfl, _⟩ := h; rfl) | (obtain ⟨_, _, _, rfl, _⟩ := h; rfl) | (obtain ⟨_, _, _, _, rfl, _⟩ := h; rfl) | (obtain ⟨_, _, _, _, _, rfl, _⟩ := h; rfl) | (obtain ⟨_, _, _, _, _, _, rfl, _⟩ := h; rfl) | (obtain ⟨_, _, _, _, _, _, _, rfl, _⟩ := h; rfl) | (obtain ⟨_, _, _, _, _, _, _, _, rfl, _⟩ := h; rfl) | (obtain ⟨_, _, _, _, _, _, _, _, _, rfl, _⟩ := h; rfl) | (obtain ⟨_, _, _, _, _, _, _, _, _, _, rfl, _⟩ := h; rfl) | (obtain ⟨_, _, _, _, _, _, _, _, _, _, _, rfl, _⟩ := h; rfl) | (obtain ⟨_, _, _, _, _, _, _, _, _, _, _, _, rfl, _⟩ := h; rfl)) (fun cdv A outer s H vs Q E hr h => ?_)
  refine ⟨_, (pss_one (ps_for (passes_of rfl) rfl (pi_enum (by rfl) T.f_enumerate (pa_cons (pv 0) pa_nil)) (pg_tup rfl (pgs_cons (pg_name (i := 2) sc_check_uses.nd rfl (Or.inl rfl)) (pgs_cons (pg_name (i := 3) sc_check_uses.nd rfl (Or.inl rfl)) pgs_nil))) (pss_cons (ps_if (PW.pt (pw_and (pt_cmpR op_eq (pe_ix ix_tup (pv 3) pe_int (fun _ _ => rfl)) (pe_glob (v := .int 0) rfl v_INPUT ⟨_, rfl⟩) (nomark _)) (pw_and1 (pt_cmpR op_ge (pe_ix ix_tup (pv 3) pe_int (fun _ _ => rfl)) (pv 1) (nomark _))))) (pss_one (ps_raiseR rfl T.x_NotThere T.y_NotThere G_NotThere_init (hr.mono (by decide)) (b_NotThere_init T) pass0 rfl T.g_NotThere (takes_of rfl rfl rfl rfl))) pss_nil)
      (pss_one (ps_for (passes_of rfl) rfl (pi_tup (pe_call G_made_of (hr.mono (by decide)) rfl T.g_made_of T.F_made_of.kp (b_made_of T) .nil pass0 (pa_cons (pv 3) pa_nil))) (pg_name (i := 4) sc_check_uses.nd rfl (Or.inl rfl)) (pss_one (ps_if (pt_cmpR op_ge (pv 4) (pv 2) (nomark _)) (pss_one (ps_raiseR rfl T.x_NotThere T.y_NotThere G_NotThere_init (hr.mono (by decide)) (b_NotThere_init T) pass0 rfl T.g_NotThere (takes_of rfl rfl rfl rfl))) pss_nil))))))), ?_⟩
  obtain ⟨a, n, c, rfl, ⟨ps, ha, hl⟩, kr, ks⟩ := h
  unfold VagraLine.well at kr ks
  refine ⟨_, rfl, a, _, rfl, SqL.of ha, for_enum (K := K) (a := a) (xs := ps.map V.ref)
    (fun i σ H' => ∃ (x y z : Option V), σ = [some (.ref a), some (.int (n : Int)), x, y, z] ∧ Same H H' ∧ VagraLine.wellFrom n 0 c = VagraLine.wellFrom n i (c.drop i))
    ⟨none, none, none, rfl, fun _ _ z => z, rfl⟩ (fun i σ H' _ ⟨_, _, _, _, b, _⟩ => SqL.of (b _ _ ha)) ?_ ?_⟩
  · rintro i y σ H1 t hi ⟨x, y', z, rfl, s1, hg⟩ nt
    rw [List.getElem?_map] at hi
    cases hp : ps[i]? with
    | none => rw [hp] at hi; cases hi
    | some q =>
      rw [hp] at hi
      obtain rfl : V.ref q = y := Option.some.inj hi
      obtain ⟨l, hc, hq⟩ := hl.get' hp
      obtain ⟨il, el⟩ := List.getElem?_eq_some_iff.mp hc
      rw [List.drop_eq_getElem_cons il, el, wellFrom_cons] at hg
      have st := same_upd (o := .tup [V.int (i : Nat), V.ref q]) nt
      have s2 := s1.trans st
      have hq2 := s2 _ _ hq
      refine ⟨t, _, rfl, SqT.of upd_same, rfl, _, _, rfl, _, _, rfl, rfl, ?_⟩
      refine ⟨_, rfl, _, _, _, _, rfl, rfl, SqT.of hq2, atI_nat (lineV_kind l), rfl, _, rfl, ?_⟩
      by_cases c0 : kindOf l = 0
      case' pos =>
        refine ifT (decide_eq_true (by rw [c0])) ?_
        obtain ⟨k, rfl⟩ : ∃ k, l = .input k := by
          cases l <;> simp [kindOf] at c0
          exact ⟨_, rfl⟩
        refine ⟨_, rfl, _, _, _, _, rfl, rfl, SqT.of hq2, rfl, _, rfl, _, _, rfl, rfl, _, rfl, ?_⟩
        by_cases ck : n ≤ k
        · refine ifT (decide_eq_true (by omega)) ?_
          refine fun d hd => ((kr ?_).later s2).now T.x_NotThere d hd
          rw [hg, lineWell_input, decide_eq_false (by omega)]
          rfl
        refine ifF (decide_eq_false (by omega)) ?_
        have hw : lineWell n i (.input k) = (VagraLine.Line.input k).uses.all (fun u => decide (u < i)) := by rw [lineWell_input, decide_eq_true (show k < n by omega)]; rfl
        generalize VagraLine.Line.input k = l at *
      case' neg =>
        refine ifF (decide_eq_false fun z => c0 (by injection z)) ?_
        refine ifF rfl ?_
        have hw := lineWell_other (n := n) (i := i) c0
      all_goals
        rw [hw] at hg
        refine ⟨_, rfl, q, l, rfl, hq2, fun H3 u s3 nu hu => ?_⟩
        refine ⟨u, rfl, ⟨_, SqT.of hu⟩, for_tup (K := K) (a := u) (xs := l.uses.map natV)
          (fun j σ H' => ∃ z : Option V, σ = [some (.ref a), some (.int (n : Int)), some (.int (i : Nat)), some (.ref q), z] ∧ Same H H' ∧ H' u = some (.tup (l.uses.map natV)) ∧ ∀ m ∈ l.uses.take j, m < i)
          ⟨_, rfl, s2.trans s3, hu, fun m hm => by simp at hm⟩ (fun j σ H' _ ⟨_, _, _, b, _⟩ => SqT.of b) ?_ ?_⟩
        · rintro j y σ H4 hj ⟨z, rfl, s4, hu4, hall⟩
          rw [List.getElem?_map] at hj
          cases hx : l.uses[j]? with
          | none => rw [hx] at hj; cases hj
          | some m =>
            rw [hx] at hj
            obtain rfl : natV m = y := Option.some.inj hj
            refine ⟨_, rfl, _, rfl, _, _, rfl, rfl, _, rfl, ?_⟩
            by_cases cm : i ≤ m
            · refine ifT (decide_eq_true (by omega)) ?_
              refine fun d hd => ((kr ?_).later s4).now T.x_NotThere d hd
              rw [hg]
              have : l.uses.all (fun u => decide (u < i)) = false := by
                rw [List.all_eq_false]
                exact ⟨m, List.mem_of_getElem? hx, by simpa using cm⟩
              rw [this]
              rfl
            · refine ifF (decide_eq_false (by omega)) ?_
              refine ⟨_, rfl, s4, hu4, fun r hr => ?_⟩
              rw [take_snoc hx] at hr
              rcases List.mem_append.mp hr with hr | hr
              · exact hall r hr
              · obtain rfl : r = m := by simpa using hr
                omega
        · rintro σ H4 ⟨z, rfl, s4, hu4, hall⟩
          rw [List.length_map, List.take_length] at hall
          refine ⟨_, _, _, rfl, s4, ?_⟩
          rw [hg]
          have : l.uses.all (fun u => decide (u < i)) = true := by
            rw [List.all_eq_true]
            exact fun m hm => by simpa using hall m hm
          rw [this]
          rfl
  · rintro σ H1 ⟨x, y, z, rfl, s1, hg⟩
    rw [List.length_map, hl.len, List.drop_length] at hg
    exact ks hg H1 s1
def outsOk (c : List Line) (os : List Int) : Prop := (∀ x ∈ os, 0 ≤ x ∧ x < c.length) ∧ 1 ≤ os.length ∧ os.length ≤ 6
theorem outsOf_ok {c : List Line} {os : List Int} (h : outsOk c os) : Vagrai.outsOf c os = .ok (os.map Int.toNat) := by
  unfold Vagrai.outsOf
  rw [if_pos]
  refine ⟨?_, h.2.1, h.2.2⟩
  rw [List.all_eq_true]
  intro x hx
  have := h.1 x hx
  simp
  omega
theorem outsOf_no {c : List Line} {os : List Int} (h : ¬ outsOk c os) : Vagrai.outsOf c os = .error (-2) := by
  unfold Vagrai.outsOf
  rw [if_neg]
  rintro ⟨a, b, d⟩
  refine h ⟨fun x hx => ?_, b, d⟩
  rw [List.all_eq_true] at a
  have := a x hx
  simp at this
  exact this
def spOuts (K : PySem.W.Frag) (S : Addr) : Sp := fun vs H Q E => ∃ (o a : Addr) (os : List Int) (c : List Line), vs = [.ref o, .ref a] ∧ SqL K H o (os.map V.int) ∧ LinesAt H a c ∧ (¬ outsOk c os → RaiseN K S H E (-2)) ∧ (outsOk c os → Q .non H)
theorem ok_check_outs (T : Txt K mg D) : FnOk P w K mg base (L2.CX P w) 4 D.a_check_outs D.d_check_outs P_check_outs (spOuts K D.c_Refusal) := by
  have G_BadForm_init := ok_BadForm_init (P := P) (w := w) (base := base) T
  obtain ⟨t_MOST_OUTS_reading, v_MOST_OUTS_reading⟩ := T.v_MOST_OUTS_reading
  refine T.F_check_outs.okX sc_check_outs (fun vs H Q E h => by first | (obtain ⟨rfl, _⟩ := h; rfl) | (obtain ⟨_, rfl, _⟩ := h; rfl) | (obtain ⟨_, _, rfl, _⟩ := h; rfl) | (obtain ⟨_, _, _, rfl, _⟩ := h; rfl) | (obtain ⟨_, _, _, _, rfl, _⟩ := h; rfl) | (obtain ⟨_, _, _, _, _, rfl, _⟩ := h; rfl) | (obtain ⟨_, _, _, _, _, _, rfl, _⟩ := h; rfl) | (obtain ⟨_, _, _, _, _, _, _, rfl, _⟩ := h; rfl) | (obtain ⟨_, _, _, _, _, _, _, _, rfl, _⟩ := h; rfl) | (obtain ⟨_, _, _, _, _, _, _, _, _, rfl, _⟩ := h; rfl) | (obtain ⟨_, _, _, _, _, _, _, _, _, _, rfl, _⟩ := h; rfl) | (obtain ⟨_, _, _, _, _, _, _, _, _, _, _, rfl, _⟩ := h; rfl) | (obtain ⟨_, _, _, _, _, _, _, _, _, _, _, _, rfl, _⟩ := h; rfl)) (fun cdv A outer s H vs Q E hr h => ?_)
  refine ⟨_, (pss_cons (ps_if (PW.pt (pw_or (pt_cmpR op_lt (pe_callB call_len_seq (by rfl) T.f_len PySem.boot_len (pa_cons (pv 0) pa_nil)) pe_int (nomark _)) (pw_or1 (pt_cmpR op_gt (pe_callB call_len_seq (by rfl) T.f_len PySem.boot_len (pa_cons (pv 0) pa_nil)) (pe_glob (v := .int 6) rfl v_MOST_OUTS_reading ⟨_, rfl⟩) (nomark _))))) (pss_one (ps_raiseR rfl T.x_BadForm T.y_BadForm G_BadForm_init (hr.mono (by decide)) (b_BadForm_init T) pass0 rfl T.g_BadForm (takes_of rfl rfl rfl rfl))) pss_nil)
    (pss_one (ps_for (passes_of rfl) rfl (pi_list (pv 0)) (pg_name (i := 2) sc_check_outs.nd rfl (Or.inl rfl)) (pss_one (ps_if (PW.pt (pw_or (pt_cmpR op_lt (pv 2) pe_int (nomark _)) (pw_or1 (pt_cmpR op_ge (pv 2) (pe_callB call_len_seq (by rfl) T.f_len PySem.boot_len (pa_cons (pv 1) pa_nil)) (nomark _))))) (pss_one (ps_raiseR rfl T.x_BadForm T.y_BadForm G_BadForm_init (hr.mono (by decide)) (b_BadForm_init T) pass0 rfl T.g_BadForm (takes_of rfl rfl rfl rfl))) pss_nil))))), ?_⟩
  obtain ⟨o, a, os, c, rfl, ho, ⟨ps, ha, hl⟩, kr, ks⟩ := h
  refine ⟨_, rfl, _, _, rfl, .inl ho, _, _, rfl, rfl, _, rfl, ?_⟩
  have ll : (((os.map V.int).length : Nat) : Int) = (os.length : Int) := by simp
  by_cases c1 : os.length < 1
  · refine ifT (decide_eq_true (by omega)) ?_
    refine ifT rfl ?_
    exact fun d hd => (kr fun z => by have := z.2.1; omega).now T.x_BadForm d hd
  refine ifF (decide_eq_false (by omega)) ?_
  refine ⟨_, rfl, _, _, rfl, .inl ho, _, _, rfl, rfl, _, rfl, ?_⟩
  by_cases c6 : 6 < os.length
  · refine ifT (decide_eq_true (by omega)) ?_
    exact fun d hd => (kr fun z => by have := z.2.2; omega).now T.x_BadForm d hd
  refine ifF (decide_eq_false (by omega)) ?_
  refine ⟨_, rfl, o, rfl, ⟨_, ho⟩, for_list (K := K) (a := o) (xs := os.map V.int)
    (fun i σ H' => ∃ x : Option V, σ = [some (.ref o), some (.ref a), x] ∧ H' = H ∧ ∀ y ∈ os.take i, 0 ≤ y ∧ y < c.length) ⟨none, rfl, rfl, fun y hy => by simp at hy⟩ (fun i σ H' _ ⟨_, _, e, _⟩ => by rw [e]; exact ho) ?_ ?_⟩
  · rintro i y σ H1 hi ⟨x, rfl, rfl, hall⟩
    rw [List.getElem?_map] at hi
    cases hx : os[i]? with
    | none => rw [hx] at hi; cases hi
    | some m =>
      rw [hx] at hi
      obtain rfl : V.int m = y := Option.some.inj hi
      have hm := List.mem_of_getElem? hx
      refine ⟨_, rfl, _, _, rfl, rfl, _, rfl, ?_⟩
      by_cases c0 : m < 0
      · refine ifT (decide_eq_true c0) ?_
        refine ifT rfl ?_
        exact fun d hd => (kr fun z => by have := (z.1 m hm).1; omega).now T.x_BadForm d hd
      refine ifF (decide_eq_false c0) ?_
      refine ⟨_, rfl, _, rfl, _, _, rfl, .inl (SqL.of ha), _, _, rfl, rfl, _, rfl, ?_⟩
      have lc : (((ps.map V.ref).length : Nat) : Int) = (c.length : Int) := by simp [hl.len]
      by_cases cm : (c.length : Int) ≤ m
      · refine ifT (decide_eq_true (by omega)) ?_
        exact fun d hd => (kr fun z => by have := (z.1 m hm).2; omega).now T.x_BadForm d hd
      · refine ifF (decide_eq_false (by omega)) ?_
        refine ⟨_, rfl, rfl, fun r hr => ?_⟩
        rw [take_snoc hx] at hr
        rcases List.mem_append.mp hr with hr | hr
        · exact hall r hr
        · obtain rfl : r = m := by simpa using hr
          omega
  · rintro σ H1 ⟨x, rfl, rfl, hall⟩
    rw [List.length_map, List.take_length] at hall
    exact ks ⟨hall, by omega, by omega⟩
/-- the program that the arguments of code tell, or the refusal's number -/
def readP (n : Int) (ns os : List Int) : Except Int Prog :=
  if 0 ≤ n ∧ n ≤ 12 then match codeIn ns with
    | none => .error (-2)
    | some c => if 80 < c.length then .error (-7) else if VagraLine.well n.toNat c = false then .error (-3) else match Vagrai.outsOf c os with
      | .error e => .error e
      | .ok o => .ok ⟨n.toNat, c, o⟩
  else .error (-1)
def spReadP (K : PySem.W.Frag) (D : Ad) : Sp := fun vs H Q E => ∃ (n : Int) (p o : Addr) (ns os : List Int), vs = [.int n, .ref p, .ref o] ∧ SqL K H p (ns.map V.int) ∧ SqL K H o (os.map V.int) ∧ ns.length ≤ 1000000 ∧ (∀ x ∈ ns, x.natAbs < 2 ^ 4000) ∧
  (∀ e, readP n ns os = .error e → RaiseN K D.c_Refusal H E e) ∧ (∀ q, readP n ns os = .ok q → GiveP D H Q q)
theorem ok_read_program (T : Txt K mg D) : FnOk P w K mg base (L2.CX P w) 6 D.a_read_program D.d_read_program P_read_program (spReadP K D) := by
  have G_check_choice := ok_check_choice (P := P) (w := w) (base := base) T
  have G_read_lines := ok_read_lines (P := P) (w := w) (base := base) T
  have G_TooLarge_init := ok_TooLarge_init (P := P) (w := w) (base := base) T
  have G_check_uses := ok_check_uses (P := P) (w := w) (base := base) T
  have G_check_outs := ok_check_outs (P := P) (w := w) (base := base) T
  have G_Program_init := ok_Program_init (P := P) (w := w) (base := base) T
  obtain ⟨t_MOST_INPUTS_reading, v_MOST_INPUTS_reading⟩ := T.v_MOST_INPUTS_reading
  obtain ⟨t_MOST_LINES, v_MOST_LINES⟩ := T.v_MOST_LINES
  refine T.F_read_program.okX sc_read_program (fun vs H Q E h => by first | (obtain ⟨rfl, _⟩ := h; rfl) | (obtain ⟨_, rfl, _⟩ := h; rfl) | (obtain ⟨_, _, rfl, _⟩ := h; rfl) | (obtain ⟨_, _, _, rfl, _⟩ := h; rfl) | (obtain ⟨_, _, _, _, rfl, _⟩ := h; rfl) | (obtain ⟨_, _, _, _, _, rfl, _⟩ := h; rfl) | (obtain ⟨_, _, _, _, _, _, rfl, _⟩ := h; rfl) | (obtain ⟨_, _, _, _, _, _, _, rfl, _⟩ := h; rfl) | (obtain ⟨_, _, _, _, _, _, _, _, rfl, _⟩ := h; rfl) | (obtain ⟨_, _, _, _, _, _, _, _, _, rfl, _⟩ := h; rfl) | (obtain ⟨_, _, _, _, _, _, _, _, _, _, rfl, _⟩ := h; rfl) | (obtain ⟨_, _, _, _, _, _, _, _, _, _, _, rfl, _⟩ := h; rfl) | (obtain ⟨_, _, _, _, _, _, _, _, _, _, _, _, rfl, _⟩ := h; rfl)) (fun cdv A outer s H vs Q E hr h => ?_)
  refine ⟨_, (pss_cons (ps_expr (pe_call G_check_choice (hr.mono (by decide)) rfl T.g_check_choice T.F_check_choice.kp (b_check_choice T) .nil (passes_call (takes_of rfl rfl rfl rfl) (fun _ _ _ _ z => z)) (pa_cons (pv 0) (pa_cons (pe_glob (v := .int 12) rfl v_MOST_INPUTS_reading ⟨_, rfl⟩) pa_nil))))
    (pss_cons (ps_set (i := 3) sc_read_program.nd rfl (.inl rfl) (pe_call G_read_lines (hr.mono (by decide)) rfl T.g_read_lines T.F_read_lines.kp (b_read_lines T) .nil (passes_call (takes_of rfl rfl rfl rfl) (fun _ _ _ _ z => z)) (pa_cons (pv 1) pa_nil)))
    (pss_cons (ps_if (pt_cmpR op_gt (pe_callB call_len_seq (by rfl) T.f_len PySem.boot_len (pa_cons (pv 3) pa_nil)) (pe_glob (v := .int 80) rfl v_MOST_LINES ⟨_, rfl⟩) (nomark _)) (pss_one (ps_raiseR rfl T.x_TooLarge T.y_TooLarge G_TooLarge_init (hr.mono (by decide)) (b_TooLarge_init T) pass0 rfl T.g_TooLarge (takes_of rfl rfl rfl rfl))) pss_nil)
    (pss_cons (ps_expr (pe_call G_check_uses (hr.mono (by decide)) rfl T.g_check_uses T.F_check_uses.kp (b_check_uses T) .nil (passes_call (takes_of rfl rfl rfl rfl) (fun _ _ _ _ z => z)) (pa_cons (pv 3) (pa_cons (pv 0) pa_nil))))
    (pss_cons (ps_expr (pe_call G_check_outs (hr.mono (by decide)) rfl T.g_check_outs T.F_check_outs.kp (b_check_outs T) .nil (passes_call (takes_of rfl rfl rfl rfl) (fun _ _ _ _ z => z)) (pa_cons (pv 2) (pa_cons (pv 3) pa_nil))))
    (pss_one (ps_ret (pe_make T.mk_Program G_Program_init (hr.mono (by decide)) rfl T.g_Program (b_Program_init T) .nil pass0 (pa_cons (pv 0) (pa_cons (pv 3) (pa_cons (pe_callTy call_list_of (by rfl) T.f_list (by decide +kernel) (pa_cons (pv 2) pa_nil)) pa_nil))))))))))), ?_⟩
  obtain ⟨n, p, o, ns, os, rfl, hp, ho, hz, hb, kr, ks⟩ := h
  unfold readP at kr ks
  refine ⟨_, rfl, n, 12, rfl, fun h => ?_, fun h => ?_⟩
  · rw [if_neg h] at kr
    exact kr _ rfl
  rw [if_pos h] at kr ks
  refine ⟨_, rfl, p, ns, rfl, hp, hz, hb, fun hn => ?_, fun c hc H1 a s1 na hl => ?_⟩
  · rw [hn] at kr
    exact kr _ rfl
  rw [hc] at kr ks
  have kr : ∀ e, (if 80 < c.length then .error (-7) else if VagraLine.well n.toNat c = false then .error (-3) else match Vagrai.outsOf c os with
      | .error e => .error e
      | .ok o => .ok ⟨n.toNat, c, o⟩ : Except Int Prog) = .error e → RaiseN K D.c_Refusal H E e := kr
  have ks : ∀ q, (if 80 < c.length then .error (-7) else if VagraLine.well n.toNat c = false then .error (-3) else match Vagrai.outsOf c os with
      | .error e => .error e
      | .ok o => .ok ⟨n.toNat, c, o⟩ : Except Int Prog) = .ok q → GiveP D H Q q := ks
  obtain ⟨ps, l1, l2⟩ := hl
  have hl : LinesAt H1 a c := ⟨ps, l1, l2⟩
  refine ⟨_, rfl, _, _, rfl, .inl (SqL.of l1), _, _, rfl, rfl, _, rfl, ?_⟩
  have lc : (((ps.map V.ref).length : Nat) : Int) = (c.length : Int) := by simp [l2.len]
  by_cases c8 : 80 < c.length
  · refine ifT (decide_eq_true (by omega)) ?_
    rw [if_pos c8] at kr
    exact fun d hd => ((kr _ rfl).later s1).now T.x_TooLarge d hd
  refine ifF (decide_eq_false (by omega)) ?_
  rw [if_neg c8] at kr ks
  have en : ((n.toNat : Nat) : Int) = n := by omega
  refine ⟨_, rfl, _, rfl, a, n.toNat, c, by rw [en]; rfl, hl, fun hw => ?_, fun hw H2 s2 => ?_⟩
  · rw [if_pos hw] at kr
    exact (kr _ rfl).later s1
  rw [if_neg (by rw [hw]; nofun)] at kr ks
  have s12 := s1.trans s2
  refine ⟨_, rfl, _, rfl, o, a, os, c, rfl, s12.seq ho, hl.same s2, fun hno => ?_, fun hok => ?_⟩
  · rw [outsOf_no hno] at kr
    exact (kr _ rfl).later s12
  rw [outsOf_ok hok] at ks
  refine ⟨_, rfl, _, rfl, _, rfl, _, _, rfl, .inl (s12.seq ho), fun r hr => ?_⟩
  have sr := same_upd (o := .lst (os.map V.int)) hr
  intro y dy ny ndy ne2
  have s6 : Same (upd H2 r (.lst (os.map V.int))) (upd (upd (upd H2 r (.lst (os.map V.int))) dy (.own y)) y (.ins D.c_Program dy (progF n.toNat a r))) := fun b o z => by
    rw [upd_ne (ne_of_none z ny), upd_ne (ne_of_none z ndy)]
    exact z
  refine ⟨y, dy, a, r, n.toNat, by rw [en]; rfl, upd_same, rfl, ?_⟩
  rw [upd_upd]
  have s7 := s12.trans sr
  refine ks _ rfl _ y (s7.trans s6) (s7.free ny) ⟨dy, a, r, ps, upd_same, s6 _ _ (sr _ _ (s2 _ _ l1)), l2.keep fun x xs z => s6 _ _ (sr _ _ (s2 _ _ z)), s6 _ _ ?_⟩
  rw [upd_same]
  refine congrArg (fun q => some (HO.lst q)) ?_
  rw [List.map_map]
  refine List.map_congr_left fun x hx => ?_
  have := (hok.1 x hx).1
  show V.int x = V.int ((x.toNat : Nat) : Int)
  congr 1
  omega
def spReadF (K : PySem.W.Frag) (S : Addr) : Sp := fun vs H Q E => ∃ (p : Addr) (n : Nat) (ns : List Int), vs = [.ref p, .int (n : Int)] ∧ SqL K H p (ns.map V.int) ∧ n ≤ 100000 ∧ ns.length ≤ 100000 ∧ (∀ x ∈ ns, x.natAbs < 2 ^ 4000) ∧
  (∀ e, Vagrai.fracs n ns = .error e → RaiseN K S H E e) ∧ (∀ fs, Vagrai.fracs n ns = .ok fs → ∀ (H' : Hp) (q : Addr), Same H H' → H q = none → FracsAt H' q fs → Q (.ref q) H')
theorem fracs_no {n : Nat} {ns : List Int} (h : ns.length ≠ 2 * n) : Vagrai.fracs n ns = .error (-2) := by
  unfold Vagrai.fracs
  cases e : VagraLine.fracsOf ns with
  | none => rfl
  | some fs =>
    have := fracsOf_len _ ns fs (Nat.le_refl _) e
    show (if fs.length = n then Except.ok fs else Except.error (-2)) = _
    rw [if_neg (by omega)]
theorem fracs_none {n : Nat} {ns : List Int} (h : VagraLine.fracsOf ns = none) : Vagrai.fracs n ns = .error (-2) := by
  unfold Vagrai.fracs
  rw [h]
theorem fracs_some {n : Nat} {ns : List Int} {fs : List Frac} (h : VagraLine.fracsOf ns = some fs) (hn : fs.length = n) : Vagrai.fracs n ns = .ok fs := by
  unfold Vagrai.fracs
  rw [h]
  show (if fs.length = n then Except.ok fs else Except.error (-2)) = _
  rw [if_pos hn]
theorem two_drop {ns : List Int} {i : Nat} (h : 2 * i + 1 < ns.length) : ∃ a d, ns[2 * i]? = some a ∧ ns[2 * i + 1]? = some d ∧ ns.drop (2 * i) = a :: d :: ns.drop (2 * (i + 1)) := by
  refine ⟨ns[2 * i], ns[2 * i + 1], List.getElem?_eq_getElem (by omega), List.getElem?_eq_getElem h, ?_⟩
  rw [List.drop_eq_getElem_cons (by omega), List.drop_eq_getElem_cons h]
  rfl
theorem ok_read_fractions (T : Txt K mg D) : FnOk P w K mg base (L2.CX P w) 4 D.a_read_fractions D.d_read_fractions P_read_fractions (spReadF K D.c_Refusal) := by
  have G_BadForm_init := ok_BadForm_init (P := P) (w := w) (base := base) T
  have G_lowest := ok_lowest (P := P) (w := w) (base := base) T
  refine T.F_read_fractions.okX sc_read_fractions (fun vs H Q E h => by first | (obtain ⟨rfl, _⟩ := h; rfl) | (obtain ⟨_, rfl, _⟩ := h; rfl) | (obtain ⟨_, _, rfl, _⟩ := h; rfl) | (obtain ⟨_, _, _, rfl, _⟩ := h; rfl) | (obtain ⟨_, _, _, _, rfl, _⟩ := h; rfl) | (obtain ⟨_, _, _, _, _, rfl, _⟩ := h; rfl) | (obtain ⟨_, _, _, _, _, _, rfl, _⟩ := h; rfl) | (obtain ⟨_, _, _, _, _, _, _, rfl, _⟩ := h; rfl) | (obtain ⟨_, _, _, _, _, _, _, _, rfl, _⟩ := h; rfl) | (obtain ⟨_, _, _, _, _, _, _, _, _, rfl, _⟩ := h; rfl) | (obtain ⟨_, _, _, _, _, _, _, _, _, _, rfl, _⟩ := h; rfl) | (obtain ⟨_, _, _, _, _, _, _, _, _, _, _, rfl, _⟩ := h; rfl) | (obtain ⟨_, _, _, _, _, _, _, _, _, _, _, _, rfl, _⟩ := h; rfl)) (fun cdv A outer s H vs Q E hr h => ?_)
  refine ⟨_, (pss_cons (ps_if (pt_cmpR op_ne (pe_callB call_len_seq (by rfl) T.f_len PySem.boot_len (pa_cons (pv 0) pa_nil)) (pe_op op_mulW pe_int (pv 1)) (nomark _)) (pss_one (ps_raiseR rfl T.x_BadForm T.y_BadForm G_BadForm_init (hr.mono (by decide)) (b_BadForm_init T) pass0 rfl T.g_BadForm (takes_of rfl rfl rfl rfl))) pss_nil)
    (pss_cons (ps_set (i := 2) sc_read_fractions.nd rfl (.inl rfl) (pe_lst pa_nil))
    (pss_cons (ps_for (passes_of rfl) rfl (pi_range1 rfl T.f_range (pa_cons (pv 1) pa_nil)) (pg_name (i := 3) sc_read_fractions.nd rfl (Or.inl rfl)) (pss_cons (ps_if (pt_cmpR op_lt (pe_ix ix_list (pv 0) (pe_op op_add (pe_op op_mulW pe_int (pv 3)) pe_int) (fun _ _ => rfl)) pe_int (nomark _)) (pss_one (ps_raiseR rfl T.x_BadForm T.y_BadForm G_BadForm_init (hr.mono (by decide)) (b_BadForm_init T) pass0 rfl T.g_BadForm (takes_of rfl rfl rfl rfl))) pss_nil)
      (pss_one (ps_expr (pe_bm PySem.F.plainAttrs_list PySem.F.slot_list_append PySem.F.type_list_append mt_append (pv 2) (pa_cons (pe_call G_lowest (hr.mono (by decide)) rfl T.g_lowest T.F_lowest.kp (b_lowest T) .nil pass0 (pa_cons (pe_ix ix_list (pv 0) (pe_op op_mulW pe_int (pv 3)) (fun _ _ => rfl)) (pa_cons (pe_ix ix_list (pv 0) (pe_op op_add (pe_op op_mulW pe_int (pv 3)) pe_int) (fun _ _ => rfl)) pa_nil))) pa_nil))))))
    (pss_one (ps_ret (pv 2)))))), ?_⟩
  obtain ⟨p, n, ns, rfl, hp, hn, hz, hb, kr, ks⟩ := h
  have zl : sizeLine = 16777216 := rfl
  have m2 : ∀ i : Nat, i ≤ 100000 → CMulW 2 (i : Int) := fun i hi => wide_mul (a := 8) (b := 20) (by decide) (by rw [Int.natAbs_natCast]; omega) (by decide) (by decide) (by decide)
  refine ⟨_, rfl, _, _, rfl, .inl hp, _, rfl, _, _, rfl, rfl, m2 n hn, rfl, _, rfl, ?_⟩
  by_cases c1 : ns.length = 2 * n
  case neg =>
    have e : (!decide (V.int (((ns.map V.int).length : Nat) : Int) = V.int (2 * (n : Int)))) = true := by
      rw [decide_eq_false]
      · rfl
      · intro z
        injection z with z
        rw [List.length_map] at z
        omega
    refine ifT e ?_
    exact fun d hd => (kr _ (fracs_no c1)).now T.x_BadForm d hd
  have e : (!decide (V.int (((ns.map V.int).length : Nat) : Int) = V.int (2 * (n : Int)))) = false := by
    rw [decide_eq_true]
    · rfl
    · congr 1
      rw [List.length_map]
      omega
  refine ifF e ?_
  refine ⟨(by show 0 ≤ sizeLine; decide), fun M hM => ?_⟩
  refine ⟨_, rfl, _, rfl, by omega, by omega, for_range (lo := 0) (n := ((n : Int)).toNat)
    (fun i σ H' => ∃ (x : Option V) (qs : List Addr) (fs : List Frac), σ = [some (.ref p), some (.int (n : Int)), some (.ref M), x] ∧ Same H H' ∧ H' M = some (.lst (qs.map V.ref)) ∧ Fracs H' qs fs ∧ fs.length = i ∧ VagraLine.fracsOf ns = (VagraLine.fracsOf (ns.drop (2 * i))).map (fs ++ ·))
    ⟨none, [], [], rfl, same_upd hM, upd_same, Fracs.nil _, rfl, by show _ = (VagraLine.fracsOf ns).map _; cases VagraLine.fracsOf ns <;> simp⟩ ?_ ?_⟩
  · rintro i σ H1 hi ⟨x, qs, fs, rfl, s1, m1, f1, fl, hg⟩
    have hi : i < n := by omega
    obtain ⟨a, d, ea, ed, hd⟩ := two_drop (ns := ns) (i := i) (by omega)
    rw [hd, fracsOf_two] at hg
    have hp1 := s1.seq hp
    have zi : (0 : Int) + (i : Int) = (i : Int) := by omega
    rw [zi]
    have ix1 : (2 : Int) * (i : Int) = ((2 * i : Nat) : Int) := by omega
    have ix2 : (2 : Int) * (i : Int) + 1 = ((2 * i + 1 : Nat) : Int) := by omega
    have at1 : atI (ns.map V.int) ((2 : Int) * (i : Int)) = some (V.int a) := by rw [ix1]; exact atI_nat (by rw [List.getElem?_map, ea]; rfl)
    have at2 : atI (ns.map V.int) ((2 : Int) * (i : Int) + 1) = some (V.int d) := by rw [ix2]; exact atI_nat (by rw [List.getElem?_map, ed]; rfl)
    refine ⟨_, rfl, _, rfl, _, _, rfl, rfl, m2 i (by omega), _, _, rfl, rfl, p, _, _, V.int d, rfl, rfl, hp1, at2, _, _, rfl, rfl, _, rfl, ?_⟩
    by_cases c2 : d < 1
    · refine ifT (decide_eq_true c2) ?_
      rw [if_pos c2] at hg
      exact fun q hq => ((kr _ (fracs_none hg)).later s1).now T.x_BadForm q hq
    refine ifF (decide_eq_false c2) ?_
    rw [if_neg c2] at hg
    have bd := hb d (List.mem_of_getElem? ed)
    refine ⟨_, rfl, .inl ⟨rfl, _, SqL.of m1⟩, ?_⟩
    refine ⟨_, rfl, _, rfl, _, _, rfl, rfl, m2 i (by omega), p, _, _, V.int a, rfl, rfl, hp1, at1, _, rfl, _, rfl, _, _, rfl, rfl, m2 i (by omega), _, _, rfl, rfl, p, _, _, V.int d, rfl, rfl, hp1, at2, ?_⟩
    have ed' : ((d.toNat : Nat) : Int) = d := by omega
    refine ⟨a, d.toNat, by rw [ed']; rfl, by omega, by omega, fun H2 r s2 nr hr => ?_⟩
    have m2' := s2 _ _ m1
    refine ⟨M, _, _, rfl, rfl, m2', by rw [List.length_map, f1.len]; omega, ?_⟩
    have B : But H2 (upd H2 M (.lst (qs.map V.ref ++ [V.ref r]))) M := fun x o z y => (upd_ne y).trans z
    refine ⟨_, qs ++ [r], fs ++ [frac a d.toNat], rfl, fun x o z => B _ _ (s2 _ _ (s1 _ _ z)) (ne_of_none z hM), by rw [upd_same]; simp, (f1.keep fun x xs z => B _ _ (s2 _ _ z) (ne_of z m1 nofun)).snoc (B _ _ hr (ne_of hr m2' nofun)), by simp [fl], ?_⟩
    rw [hg]
    cases VagraLine.fracsOf (ns.drop (2 * (i + 1))) <;> simp
  · rintro σ H1 ⟨x, qs, fs, rfl, s1, m1, f1, fl, hg⟩
    have fl : fs.length = n := by omega
    have e : 2 * ((n : Int)).toNat = ns.length := by omega
    rw [e, List.drop_length] at hg
    have hg : VagraLine.fracsOf ns = some fs := by rw [hg]; simp [VagraLine.fracsOf]
    exact ⟨_, rfl, ks fs (fracs_some hg fl) H1 M s1 hM ⟨qs, m1, f1⟩⟩
end Lc
set_option Elab.async false
set_option linter.all false
set_option maxRecDepth 100000
set_option maxHeartbeats 4000000
namespace Lc
open PySem PySem.Spec PyProof.Rows L2
open Vagraa (Frac frac)
open VagraLine (Line)
open Vagrai (Prog Work)
variable {P : Program} {w : World} {K : PySem.W.Frag} {mg : Str → Option Value} {base : Heap} {D : Ad}
theorem take_filter {α : Type} {f : α → Bool} {l : List α} {i : Nat} {x : α} (h : l[i]? = some x) : ((l.take (i + 1)).filter f).length = ((l.take i).filter f).length + (if f x = true then 1 else 0) := by
  rw [List.take_add_one, h, List.filter_append, List.length_append]
  congr 1
  show (List.filter f [x]).length = _
  by_cases c : f x = true
  · rw [if_pos c, List.filter_cons_of_pos c]; rfl
  · rw [if_neg c, List.filter_cons_of_neg c]; rfl
def spCount (D : Ad) : Sp := fun vs H Q _ => ∃ (pa : Addr) (p : Prog), vs = [.ref pa] ∧ ProgAt D H pa p ∧ p.code.length ≤ 100000 ∧ ∀ H' : Hp, Same H H' → Q (.int (Vagrai.opsOf p)) H'
theorem ok_operations (T : Txt K mg D) : FnOk P w K mg base CX0 2 D.a_operations D.d_operations P_operations (spCount D) := by
  have G_is_operation := ok_is_operation (P := P) (w := w) (base := base) T
  refine T.F_operations.ok sc_operations (fun vs H Q E h => by first | (obtain ⟨rfl, _⟩ := h; rfl) | (obtain ⟨_, rfl, _⟩ := h; rfl) | (obtain ⟨_, _, rfl, _⟩ := h; rfl) | (obtain ⟨_, _, _, rfl, _⟩ := h; rfl) | (obtain ⟨_, _, _, _, rfl, _⟩ := h; rfl) | (obtain ⟨_, _, _, _, _, rfl, _⟩ := h; rfl) | (obtain ⟨_, _, _, _, _, _, rfl, _⟩ := h; rfl) | (obtain ⟨_, _, _, _, _, _, _, rfl, _⟩ := h; rfl) | (obtain ⟨_, _, _, _, _, _, _, _, rfl, _⟩ := h; rfl) | (obtain ⟨_, _, _, _, _, _, _, _, _, rfl, _⟩ := h; rfl) | (obtain ⟨_, _, _, _, _, _, _, _, _, _, rfl, _⟩ := h; rfl) | (obtain ⟨_, _, _, _, _, _, _, _, _, _, _, rfl, _⟩ := h; rfl) | (obtain ⟨_, _, _, _, _, _, _, _, _, _, _, _, rfl, _⟩ := h; rfl)) (fun cdv A outer s H vs Q E hr h => ?_)
  refine ⟨_, (pss_one (ps_ret (pe_callB call_len_seq (by rfl) T.f_len PySem.boot_len (pa_cons (pe_lc (own := [("line", 1)]) (g := gName 1) rfl sc_operations.nd (pi_list (pe_fld (pv 0) rfl)) (blkOk_by (own := [("line", 1)]) (N := N_operations) (sc := defScope s_operations) (by decide +kernel)) (fun _ _ _ _ _ => pg_name (i := 1) sc_operations.nd rfl (Or.inl rfl)) (fun _ _ _ _ _ => pts_one (pt_val (pe_call G_is_operation (hr.mono (by decide)) rfl T.g_is_operation T.F_is_operation.kp (b_is_operation T) .nil pass0 (pa_cons (pv 1) pa_nil)))) (fun _ _ _ _ _ => (pv 1))) pa_nil)))), ?_⟩
  obtain ⟨pa, p, rfl, ⟨dp, pl, po, ps, hP⟩, hz, k⟩ := h
  have zl : sizeLine = 16777216 := rfl
  refine ⟨_, rfl, pa, _, dp, _, _, rfl, hP.obj, T.cl_Program, T.n_Program_lines, lk_lines _ _ _, pl, rfl, ⟨_, SqL.of hP.lst⟩, fun M hM => lc_list (K := K) (a := pl) (xs := ps.map V.ref)
    (fun i H' => Same H H' ∧ ∃ qs : List Addr, H' M = some (.lst (qs.map V.ref)) ∧ qs.length = ((p.code.take i).filter Line.isOp).length) ⟨same_upd hM, [], upd_same, rfl⟩ (fun i H' _ e => SqL.of (e.1 _ _ hP.lst)) (fun i y H' hi e => ?_) (fun H' e => ?_)⟩
  · obtain ⟨s1, qs, hq, ql⟩ := e
    rw [List.getElem?_map] at hi
    cases hp : ps[i]? with
    | none => rw [hp] at hi; cases hi
    | some a =>
      rw [hp] at hi
      obtain rfl : V.ref a = y := Option.some.inj hi
      obtain ⟨l, hl, ha⟩ := hP.lines.get' hp
      have tf := take_filter (f := Line.isOp) hl
      have il : i < p.code.length := (List.getElem?_eq_some_iff.mp hl).1
      have fl : ((p.code.take i).filter Line.isOp).length ≤ i := Nat.le_trans (List.length_filter_le _ _) (by rw [List.length_take]; omega)
      refine ⟨rfl, _, rfl, a, l, rfl, s1 _ _ ha, ?_⟩
      by_cases c : l.isOp = true
      · rw [if_pos c] at tf
        refine ⟨_, rfl, ifT c ⟨_, rfl, _, hq, by rw [List.length_map]; omega, fun b o z => (upd_ne (ne_of_none z hM)).trans (s1 _ _ z), qs ++ [a], by rw [upd_same, List.map_append]; rfl, by rw [List.length_append, ql, tf]; rfl⟩⟩
      · rw [if_neg c] at tf
        exact ⟨_, rfl, ifF (by cases z : l.isOp with | true => exact absurd z c | false => rfl) ⟨s1, qs, hq, by rw [ql, tf]; rfl⟩⟩
  · obtain ⟨s1, qs, hq, ql⟩ := e
    rw [List.length_map, hP.lines.len, List.take_length] at ql
    refine ⟨M, _, rfl, .inl (SqL.of hq), ?_⟩
    rw [List.length_map, ql]
    exact k _ s1
/-- a constant that no text has -/
def isLarge : Line → Bool
  | .num a => !Vagrai.small a
  | _ => false
def spIsLarge : Sp := fun vs H Q _ => ∃ (p : Addr) (l : Line), vs = [.ref p] ∧ H p = some (.tup (lineV l)) ∧ Q (.bl (isLarge l)) H
theorem ok_is_too_large (T : Txt K mg D) : FnOk P w K mg base CX0 1 D.a_is_too_large D.d_is_too_large P_is_too_large (spIsLarge) := by
  obtain ⟨t_TOO_LARGE_A_NUMBER, v_TOO_LARGE_A_NUMBER⟩ := T.v_TOO_LARGE_A_NUMBER
  obtain ⟨t_CONSTANT, v_CONSTANT⟩ := T.v_CONSTANT
  refine T.F_is_too_large.ok sc_is_too_large (fun vs H Q E h => by first | (obtain ⟨rfl, _⟩ := h; rfl) | (obtain ⟨_, rfl, _⟩ := h; rfl) | (obtain ⟨_, _, rfl, _⟩ := h; rfl) | (obtain ⟨_, _, _, rfl, _⟩ := h; rfl) | (obtain ⟨_, _, _, _, rfl, _⟩ := h; rfl) | (obtain ⟨_, _, _, _, _, rfl, _⟩ := h; rfl) | (obtain ⟨_, _, _, _, _, _, rfl, _⟩ := h; rfl) | (obtain ⟨_, _, _, _, _, _, _, rfl, _⟩ := h; rfl) | (obtain ⟨_, _, _, _, _, _, _, _, rfl, _⟩ := h; rfl) | (obtain ⟨_, _, _, _, _, _, _, _, _, rfl, _⟩ := h; rfl) | (obtain ⟨_, _, _, _, _, _, _, _, _, _, rfl, _⟩ := h; rfl) | (obtain ⟨_, _, _, _, _, _, _, _, _, _, _, rfl, _⟩ := h; rfl) | (obtain ⟨_, _, _, _, _, _, _, _, _, _, _, _, rfl, _⟩ := h; rfl)) (fun cdv A outer s H vs Q E hr h => ?_)
  refine ⟨_, (pss_one (ps_ret (pe_and (pe_cmpR op_eq (pe_ix ix_tup (pv 0) pe_int (fun _ _ => rfl)) (pe_glob (v := .int 1) rfl v_CONSTANT ⟨_, rfl⟩) (nomark _)) (pe_one (pe_cmpR op_ge (pe_callB (call_max2 rfl) (by rfl) T.f_max (by decide +kernel) (pa_cons (pe_callB call_abs (by rfl) T.f_abs (by decide +kernel) (pa_cons (pe_ix ix_tup (pv 0) pe_int (fun _ _ => rfl)) pa_nil)) (pa_cons (pe_ix ix_tup (pv 0) pe_int (fun _ _ => rfl)) pa_nil))) (pe_glob (v := .int 1000000000000000000) rfl v_TOO_LARGE_A_NUMBER ⟨_, rfl⟩) (nomark _)))))), ?_⟩
  obtain ⟨p, l, rfl, hp, k⟩ := h
  cases l with
  | num a =>
    refine ⟨_, rfl, _, _, _, _, rfl, rfl, SqT.of hp, rfl, rfl, _, rfl, ifT rfl ?_⟩
    refine ⟨_, rfl, _, _, _, _, rfl, rfl, SqT.of hp, rfl, _, rfl, _, rfl, _, _, _, _, rfl, rfl, SqT.of hp, rfl, _, _, rfl, ?_⟩
    have e : ((if a.num < 0 then -a.num else a.num) : Int) = (a.num.natAbs : Int) := by split <;> omega
    rw [e]
    refine ⟨_, _, rfl, rfl, ?_⟩
    have q : isLarge (.num a) = decide ((1000000000000000000 : Int) ≤ (if (a.den : Int) > (a.num.natAbs : Int) then (a.den : Int) else (a.num.natAbs : Int))) := by
      show (!(decide (a.num.natAbs < 1000000000000000000) && decide (a.den < 1000000000000000000))) = _
      by_cases c1 : a.num.natAbs < 1000000000000000000
      · by_cases c2 : a.den < 1000000000000000000
        · rw [decide_eq_true c1, decide_eq_true c2, decide_eq_false (by split <;> omega)]; rfl
        · rw [decide_eq_true c1, decide_eq_false c2, decide_eq_true (by split <;> omega)]; rfl
      · rw [decide_eq_false c1, decide_eq_true (show (1000000000000000000 : Int) ≤ (if (a.den : Int) > (a.num.natAbs : Int) then (a.den : Int) else (a.num.natAbs : Int)) by split <;> omega)]; rfl
    rw [q] at k
    exact k
  | _ => exact ⟨_, rfl, _, _, _, _, rfl, rfl, SqT.of hp, rfl, rfl, _, rfl, ifF rfl k⟩
def spCheckText (K : PySem.W.Frag) (D : Ad) : Sp := fun vs H Q E => ∃ (pa : Addr) (p : Prog), vs = [.ref pa] ∧ ProgAt D H pa p ∧ p.code.length ≤ 100000 ∧ (Vagrai.tellable p = false → RaiseN K D.c_Refusal H E (-7)) ∧ (Vagrai.tellable p = true → ∀ H' : Hp, Same H H' → Q .non H')
theorem tellable_is (p : Prog) : Vagrai.tellable p = (decide (p.inputs ≤ 12) && (decide (1 ≤ p.outs.length) && (decide (p.outs.length ≤ 12) && (decide (VagraLine.ops p.code ≤ 36) && p.code.all fun l => !isLarge l)))) := by
  unfold Vagrai.tellable
  congr 4
  apply congrArg
  funext l
  cases l <;> first | rfl | exact (Bool.not_not _).symm
theorem ok_check_text (T : Txt K mg D) : FnOk P w K mg base (L2.CX P w) 4 D.a_check_text D.d_check_text P_check_text (spCheckText K D) := by
  have G_operations := ok_operations (P := P) (w := w) (base := base) T
  have G_TooLarge_init := ok_TooLarge_init (P := P) (w := w) (base := base) T
  have G_is_too_large := ok_is_too_large (P := P) (w := w) (base := base) T
  obtain ⟨t_MOST_OPERATIONS, v_MOST_OPERATIONS⟩ := T.v_MOST_OPERATIONS
  obtain ⟨t_MOST_INPUTS_texts, v_MOST_INPUTS_texts⟩ := T.v_MOST_INPUTS_texts
  obtain ⟨t_MOST_OUTS_texts, v_MOST_OUTS_texts⟩ := T.v_MOST_OUTS_texts
  refine T.F_check_text.okX sc_check_text (fun vs H Q E h => by first | (obtain ⟨rfl, _⟩ := h; rfl) | (obtain ⟨_, rfl, _⟩ := h; rfl) | (obtain ⟨_, _, rfl, _⟩ := h; rfl) | (obtain ⟨_, _, _, rfl, _⟩ := h; rfl) | (obtain ⟨_, _, _, _, rfl, _⟩ := h; rfl) | (obtain ⟨_, _, _, _, _, rfl, _⟩ := h; rfl) | (obtain ⟨_, _, _, _, _, _, rfl, _⟩ := h; rfl) | (obtain ⟨_, _, _, _, _, _, _, rfl, _⟩ := h; rfl) | (obtain ⟨_, _, _, _, _, _, _, _, rfl, _⟩ := h; rfl) | (obtain ⟨_, _, _, _, _, _, _, _, _, rfl, _⟩ := h; rfl) | (obtain ⟨_, _, _, _, _, _, _, _, _, _, rfl, _⟩ := h; rfl) | (obtain ⟨_, _, _, _, _, _, _, _, _, _, _, rfl, _⟩ := h; rfl) | (obtain ⟨_, _, _, _, _, _, _, _, _, _, _, _, rfl, _⟩ := h; rfl)) (fun cdv A outer s H vs Q E hr h => ?_)
  refine ⟨_, (pss_cons (ps_if (PW.pt (pw_or (pt_cmpR op_gt (pe_fld (pv 0) rfl) (pe_glob (v := .int 12) rfl v_MOST_INPUTS_texts ⟨_, rfl⟩) (nomark _)) (pw_or1 (pt_cmpR op_gt (pe_call G_operations (hr.mono (by decide)) rfl T.g_operations T.F_operations.kp (b_operations T) .nil pass0 (pa_cons (pv 0) pa_nil)) (pe_glob (v := .int 36) rfl v_MOST_OPERATIONS ⟨_, rfl⟩) (nomark _))))) (pss_one (ps_raiseR rfl T.x_TooLarge T.y_TooLarge G_TooLarge_init (hr.mono (by decide)) (b_TooLarge_init T) pass0 rfl T.g_TooLarge (takes_of rfl rfl rfl rfl))) pss_nil)
    (pss_cons (ps_if (PW.pt (pw_or (pt_cmpR op_lt (pe_callB call_len_seq (by rfl) T.f_len PySem.boot_len (pa_cons (pe_fld (pv 0) rfl) pa_nil)) pe_int (nomark _)) (pw_or1 (pt_cmpR op_gt (pe_callB call_len_seq (by rfl) T.f_len PySem.boot_len (pa_cons (pe_fld (pv 0) rfl) pa_nil)) (pe_glob (v := .int 12) rfl v_MOST_OUTS_texts ⟨_, rfl⟩) (nomark _))))) (pss_one (ps_raiseR rfl T.x_TooLarge T.y_TooLarge G_TooLarge_init (hr.mono (by decide)) (b_TooLarge_init T) pass0 rfl T.g_TooLarge (takes_of rfl rfl rfl rfl))) pss_nil)
    (pss_one (ps_if (pt_val (pe_callB (cr_any rfl) (by rfl) T.f_any (by decide +kernel) (pa_cons (pe_lc (own := [("line", 1)]) (g := gName 1) (tt := tYes) rfl sc_check_text.nd (pi_list (pe_fld (pv 0) rfl)) (blkOk_by (own := [("line", 1)]) (N := N_check_text) (sc := defScope s_check_text) (by decide +kernel)) (fun _ _ _ _ _ => pg_name (i := 1) sc_check_text.nd rfl (Or.inl rfl)) (fun _ _ _ _ _ => pts_nil) (fun _ _ _ _ _ => (pe_call G_is_too_large (hr.mono (by decide)) rfl T.g_is_too_large T.F_is_too_large.kp (b_is_too_large T) .nil pass0 (pa_cons (pv 1) pa_nil)))) pa_nil))) (pss_one (ps_raiseR rfl T.x_TooLarge T.y_TooLarge G_TooLarge_init (hr.mono (by decide)) (b_TooLarge_init T) pass0 rfl T.g_TooLarge (takes_of rfl rfl rfl rfl))) pss_nil)))), ?_⟩
  obtain ⟨pa, p, rfl, ⟨dp, pl, po, ps, hP⟩, hz, kr, ks⟩ := h
  have zl : sizeLine = 16777216 := rfl
  rw [tellable_is] at kr ks
  -- program.inputs > MOST_INPUTS
  refine ⟨_, rfl, pa, _, dp, _, _, rfl, hP.obj, T.cl_Program, T.n_Program_inputs, lk_inputs _ _ _, _, _, rfl, rfl, _, rfl, ?_⟩
  by_cases c1 : p.inputs ≤ 12
  case neg =>
    rw [decide_eq_false c1] at kr
    refine ifT (decide_eq_true (by omega)) (ifT rfl ?_)
    exact fun d hd => (kr rfl).now T.x_TooLarge d hd
  rw [decide_eq_true c1] at kr ks
  refine ifF (decide_eq_false (by omega)) ?_
  -- operations(program) > MOST_OPERATIONS
  refine ⟨_, rfl, pa, p, rfl, ⟨dp, pl, po, ps, hP⟩, hz, fun H1 s1 => ?_⟩
  have eo : Vagrai.opsOf p = (VagraLine.ops p.code : Int) := rfl
  rw [eo]
  refine ⟨_, _, rfl, rfl, _, rfl, ?_⟩
  have hP1 := hP.same s1
  have no : ∀ b, (true && (decide (1 ≤ p.outs.length) && (decide (p.outs.length ≤ 12) && (b && p.code.all fun l => !isLarge l)))) = false → (b = decide (VagraLine.ops p.code ≤ 36)) → RaiseN K D.c_Refusal H E (-7) := fun b e1 e2 => by
    rw [e2] at e1; exact kr e1
  by_cases c4 : VagraLine.ops p.code ≤ 36
  case neg =>
    rw [decide_eq_false c4] at kr
    refine ifT (decide_eq_true (by omega)) ?_
    exact fun d hd => ((kr (by simp)).later s1).now T.x_TooLarge d hd
  refine ifF (decide_eq_false (by omega)) ?_
  rw [decide_eq_true c4] at kr ks
  -- len(program.outs)
  have lo : (p.outs.map natV).length = p.outs.length := List.length_map _
  refine ⟨_, rfl, pa, _, dp, _, _, rfl, hP1.obj, T.cl_Program, T.n_Program_outs, lk_outs _ _ _, po, _, rfl, .inl (SqL.of hP1.outs), _, _, rfl, rfl, _, rfl, ?_⟩
  by_cases c2 : 1 ≤ p.outs.length
  case neg =>
    rw [decide_eq_false c2] at kr
    refine ifT (decide_eq_true (by omega)) (ifT rfl ?_)
    exact fun d hd => ((kr (by simp)).later s1).now T.x_TooLarge d hd
  rw [decide_eq_true c2] at kr ks
  refine ifF (decide_eq_false (by omega)) ?_
  refine ⟨_, rfl, pa, _, dp, _, _, rfl, hP1.obj, T.cl_Program, T.n_Program_outs, lk_outs _ _ _, po, _, rfl, .inl (SqL.of hP1.outs), _, _, rfl, rfl, _, rfl, ?_⟩
  by_cases c3 : p.outs.length ≤ 12
  case neg =>
    rw [decide_eq_false c3] at kr
    refine ifT (decide_eq_true (by omega)) ?_
    exact fun d hd => ((kr (by simp)).later s1).now T.x_TooLarge d hd
  rw [decide_eq_true c3] at kr ks
  refine ifF (decide_eq_false (by omega)) ?_
  -- any([..])
  refine ⟨_, rfl, pa, _, dp, _, _, rfl, hP1.obj, T.cl_Program, T.n_Program_lines, lk_lines _ _ _, pl, rfl, ⟨_, SqL.of hP1.lst⟩, fun M hM => lc_list (K := K) (a := pl) (xs := ps.map V.ref)
    (fun i H' => Same H1 H' ∧ H' M = some (.lst (((p.code.take i).map isLarge).map V.bl))) ⟨same_upd hM, upd_same⟩ (fun i H' _ e => SqL.of (e.1 _ _ hP1.lst)) (fun i y H' hi e => ?_) (fun H2 e => ?_)⟩
  · obtain ⟨s2, h2⟩ := e
    rw [List.getElem?_map] at hi
    cases hp : ps[i]? with
    | none => rw [hp] at hi; cases hi
    | some a =>
      rw [hp] at hi
      obtain rfl : V.ref a = y := Option.some.inj hi
      obtain ⟨l, hl, hla⟩ := hP1.lines.get' hp
      have il : i < p.code.length := (List.getElem?_eq_some_iff.mp hl).1
      refine ⟨rfl, _, rfl, a, l, rfl, s2 _ _ hla, ?_⟩
      refine ⟨_, h2, by rw [List.length_map, List.length_map, List.length_take]; omega, fun b o z => (upd_ne (ne_of_none z hM)).trans (s2 _ _ z), ?_⟩
      rw [upd_same, take_snoc hl, List.map_append, List.map_append]
      rfl
  · obtain ⟨s2, h2⟩ := e
    rw [List.length_map, hP1.lines.len, List.take_length] at h2
    refine ⟨M, _, rfl, SqL.of h2, _, rfl, ?_⟩
    have e : (true && (true && (true && (true && p.code.all fun l => !isLarge l)))) = !((p.code.map isLarge).any id) := by
      rw [List.any_map]
      show (p.code.all fun l => !isLarge l) = !(p.code.any fun l => isLarge l)
      rw [List.not_any_eq_all_not]
    rw [e] at kr ks
    cases c : (p.code.map isLarge).any id with
    | true =>
      rw [c] at kr
      refine ifT rfl ?_
      exact fun d hd => ((kr rfl).later (s1.trans s2)).now T.x_TooLarge d hd
    | false =>
      rw [c] at ks
      exact ifF rfl (ks rfl _ (s1.trans s2))
end Lc
set_option Elab.async false
set_option linter.all false
set_option maxRecDepth 100000
set_option maxHeartbeats 4000000
namespace Lc
open PySem PySem.Spec PyProof.Rows L2
open Vagraa (Frac frac)
open VagraLine (Line)
open Vagrai (Prog Work)
variable {P : Program} {w : World} {K : PySem.W.Frag} {mg : Str → Option Value} {base : Heap} {D : Ad}
theorem named_codes {x : String} {k n : Nat} (h : codes (Str.ofString x) = [k]) : codes (Str.empty ++ Str.ofString x ++ Str.ofString (toString (n : Int))) = Vagrai.named k n := by
  simp only [codes_append, codes_int, signed_nat, codes_empty]
  rw [h]
  rfl
def spInName : Sp := fun vs H Q _ => ∃ k : Nat, vs = [.int (k : Int)] ∧ k ≤ 100000 ∧ ∀ s : Str, codes s = Vagrai.named 120 k → Q (.str s) H
theorem ok_input_name (T : Txt K mg D) : FnOk P w K mg base CX0 1 D.a_input_name D.d_input_name P_input_name (spInName) := by
  refine T.F_input_name.ok sc_input_name (fun vs H Q E h => by first | (obtain ⟨rfl, _⟩ := h; rfl) | (obtain ⟨_, rfl, _⟩ := h; rfl) | (obtain ⟨_, _, rfl, _⟩ := h; rfl) | (obtain ⟨_, _, _, rfl, _⟩ := h; rfl) | (obtain ⟨_, _, _, _, rfl, _⟩ := h; rfl) | (obtain ⟨_, _, _, _, _, rfl, _⟩ := h; rfl) | (obtain ⟨_, _, _, _, _, _, rfl, _⟩ := h; rfl) | (obtain ⟨_, _, _, _, _, _, _, rfl, _⟩ := h; rfl) | (obtain ⟨_, _, _, _, _, _, _, _, rfl, _⟩ := h; rfl) | (obtain ⟨_, _, _, _, _, _, _, _, _, rfl, _⟩ := h; rfl) | (obtain ⟨_, _, _, _, _, _, _, _, _, _, rfl, _⟩ := h; rfl) | (obtain ⟨_, _, _, _, _, _, _, _, _, _, _, rfl, _⟩ := h; rfl) | (obtain ⟨_, _, _, _, _, _, _, _, _, _, _, _, rfl, _⟩ := h; rfl)) (fun cdv A outer s H vs Q E hr h => ?_)
  refine ⟨_, (pss_one (ps_ret (pe_fs (.cons pe_str (.cons (pe_fmt (pv 0)) .nil))))), ?_⟩
  obtain ⟨a, rfl, ha, k⟩ := h
  have zl : sizeLine = 16777216 := rfl
  have l1 : (Str.ofString "x").length = 1 := rfl
  have alt : ((a : Int)).natAbs < 2 ^ 17 := by show ((a : Int)).natAbs < 131072; omega
  have n2 := int_len alt
  have g2 : ((a : Int)).natAbs.log2 < 1920 := Nat.lt_of_lt_of_le (log_lt alt (by decide)) (by decide)
  refine ⟨_, rfl, by simp only [slen, slen_empty]; omega, _, rfl, .inr ⟨_, rfl, g2, _, rfl, by simp only [slen, slen_empty]; omega, ?_⟩⟩
  exact k _ (named_codes rfl)
def spConst : Sp := fun vs H Q _ => ∃ a : Frac, vs = [.int a.num, .int (a.den : Int)] ∧ Vagrai.small a = true ∧ ∀ s : Str, codes s = Vagrai.constant a → Q (.str s) H
theorem ok_constant_name (T : Txt K mg D) : FnOk P w K mg base CX0 1 D.a_constant_name D.d_constant_name P_constant_name (spConst) := by
  refine T.F_constant_name.ok sc_constant_name (fun vs H Q E h => by first | (obtain ⟨rfl, _⟩ := h; rfl) | (obtain ⟨_, rfl, _⟩ := h; rfl) | (obtain ⟨_, _, rfl, _⟩ := h; rfl) | (obtain ⟨_, _, _, rfl, _⟩ := h; rfl) | (obtain ⟨_, _, _, _, rfl, _⟩ := h; rfl) | (obtain ⟨_, _, _, _, _, rfl, _⟩ := h; rfl) | (obtain ⟨_, _, _, _, _, _, rfl, _⟩ := h; rfl) | (obtain ⟨_, _, _, _, _, _, _, rfl, _⟩ := h; rfl) | (obtain ⟨_, _, _, _, _, _, _, _, rfl, _⟩ := h; rfl) | (obtain ⟨_, _, _, _, _, _, _, _, _, rfl, _⟩ := h; rfl) | (obtain ⟨_, _, _, _, _, _, _, _, _, _, rfl, _⟩ := h; rfl) | (obtain ⟨_, _, _, _, _, _, _, _, _, _, _, rfl, _⟩ := h; rfl) | (obtain ⟨_, _, _, _, _, _, _, _, _, _, _, _, rfl, _⟩ := h; rfl)) (fun cdv A outer s H vs Q E hr h => ?_)
  refine ⟨_, (pss_cons (ps_if (pt_cmpR op_ne (pv 1) pe_int (nomark _)) (pss_one (ps_ret (pe_fs (.cons pe_str (.cons (pe_fmt (pv 0)) (.cons pe_str (.cons (pe_fmt (pv 1)) (.cons pe_str .nil)))))))) pss_nil)
    (pss_cons (ps_if (pt_cmpR op_lt (pv 0) pe_int (nomark _)) (pss_one (ps_ret (pe_fs (.cons pe_str (.cons (pe_fmt (pv 0)) (.cons pe_str .nil)))))) pss_nil)
    (pss_one (ps_ret (pe_joined1 (pe_fmt (pv 0))))))), ?_⟩
  obtain ⟨a, rfl, hs, k⟩ := h
  obtain ⟨b1, b2⟩ := small_num hs
  have zl : sizeLine = 16777216 := rfl
  have n1 := int_len b1
  have n2 : (Str.ofString (toString (a.den : Int))).length ≤ 62 := int_len (k := 60) (by show ((a.den : Int)).natAbs < _; omega)
  have g1 : a.num.natAbs.log2 < 1920 := Nat.lt_of_lt_of_le (log_lt b1 (by decide)) (by decide)
  have g2 : ((a.den : Int)).natAbs.log2 < 1920 := Nat.lt_of_lt_of_le (log_lt (n := ((a.den : Int)).natAbs) (k := 60) (by omega) (by decide)) (by decide)
  have l1 : (Str.ofString "(").length = 1 := rfl
  have l2 : (Str.ofString " / ").length = 3 := rfl
  have l3 : (Str.ofString ")").length = 1 := rfl
  refine ⟨_, rfl, rfl, _, rfl, ?_⟩
  by_cases c : a.den = 1
  case neg =>
    refine ifT ?_ ?_
    · show (!decide (V.int (a.den : Int) = V.int 1)) = true
      rw [decide_eq_false fun z => c (by injection z; omega)]; rfl
    refine ⟨_, rfl, by simp only [slen, slen_empty]; omega, _, rfl, .inr ⟨_, rfl, g1, _, rfl, by simp only [slen, slen_empty]; omega, _, rfl, by simp only [slen, slen_empty]; omega, _, rfl, .inr ⟨_, rfl, g2, _, rfl, by simp only [slen, slen_empty]; omega, _, rfl, by simp only [slen, slen_empty]; omega, ?_⟩⟩⟩
    refine k _ ?_
    unfold Vagrai.constant
    rw [if_neg fun z => c z.2, if_neg c]
    simp only [codes_append, codes_int, signed_nat, codes_empty]
    show ([] ++ [40] ++ Vagraa.signed a.num ++ [32, 47, 32] ++ Vagraa.decimal a.den ++ [41]) = _
    simp
  refine ifF ?_ ?_
  · rw [c]; rfl
  refine ⟨_, rfl, _, _, rfl, rfl, _, rfl, ?_⟩
  by_cases c2 : a.num < 0
  · refine ifT (decide_eq_true c2) ?_
    refine ⟨_, rfl, by simp only [slen, slen_empty]; omega, _, rfl, .inr ⟨_, rfl, g1, _, rfl, by simp only [slen, slen_empty]; omega, _, rfl, by simp only [slen, slen_empty]; omega, ?_⟩⟩
    refine k _ ?_
    unfold Vagrai.constant
    rw [if_neg (by omega), if_pos c]
    simp only [codes_append, codes_int, codes_empty]
    show ([] ++ [40] ++ Vagraa.signed a.num ++ [41]) = _
    simp
  · refine ifF (decide_eq_false c2) ?_
    refine ⟨_, rfl, .inr ⟨_, rfl, g1, ?_⟩⟩
    refine k _ ?_
    rw [codes_int]
    unfold Vagrai.constant
    rw [if_pos ⟨by omega, c⟩]
    unfold Vagraa.signed
    rw [if_neg c2]
/-- line i's name, its kind known -/
def nameL (i : Nat) : Line → Vagraa.Bytes
  | .input k => Vagrai.named 120 k
  | .num a => Vagrai.constant a
  | _ => Vagrai.named 116 i
theorem nameOf_at {c : List Line} {i : Nat} {l : Line} (h : c[i]? = some l) : Vagrai.nameOf c i = nameL i l := by
  unfold Vagrai.nameOf
  rw [List.getD_eq_getElem?_getD, h]
  cases l <;> rfl
/-- a line that a text may have -/
def NameOk (i : Nat) (l : Line) : Prop := i ≤ 100000 ∧ isLarge l = false ∧ ∀ k : Nat, l = .input k → k ≤ 1000
def spName : Sp := fun vs H Q _ => ∃ (i : Nat) (p : Addr) (l : Line), vs = [.int (i : Int), .ref p] ∧ H p = some (.tup (lineV l)) ∧ NameOk i l ∧ ∀ s : Str, codes s = nameL i l → Q (.str s) H
theorem ok_line_name (T : Txt K mg D) : FnOk P w K mg base CX0 2 D.a_line_name D.d_line_name P_line_name (spName) := by
  have G_input_name := ok_input_name (P := P) (w := w) (base := base) T
  have G_constant_name := ok_constant_name (P := P) (w := w) (base := base) T
  obtain ⟨t_INPUT, v_INPUT⟩ := T.v_INPUT
  obtain ⟨t_CONSTANT, v_CONSTANT⟩ := T.v_CONSTANT
  refine T.F_line_name.ok sc_line_name (fun vs H Q E h => by first | (obtain ⟨rfl, _⟩ := h; rfl) | (obtain ⟨_, rfl, _⟩ := h; rfl) | (obtain ⟨_, _, rfl, _⟩ := h; rfl) | (obtain ⟨_, _, _, rfl, _⟩ := h; rfl) | (obtain ⟨_, _, _, _, rfl, _⟩ := h; rfl) | (obtain ⟨_, _, _, _, _, rfl, _⟩ := h; rfl) | (obtain ⟨_, _, _, _, _, _, rfl, _⟩ := h; rfl) | (obtain ⟨_, _, _, _, _, _, _, rfl, _⟩ := h; rfl) | (obtain ⟨_, _, _, _, _, _, _, _, rfl, _⟩ := h; rfl) | (obtain ⟨_, _, _, _, _, _, _, _, _, rfl, _⟩ := h; rfl) | (obtain ⟨_, _, _, _, _, _, _, _, _, _, rfl, _⟩ := h; rfl) | (obtain ⟨_, _, _, _, _, _, _, _, _, _, _, rfl, _⟩ := h; rfl) | (obtain ⟨_, _, _, _, _, _, _, _, _, _, _, _, rfl, _⟩ := h; rfl)) (fun cdv A outer s H vs Q E hr h => ?_)
  refine ⟨_, (pss_cons (ps_if (pt_cmpR op_eq (pe_ix ix_tup (pv 1) pe_int (fun _ _ => rfl)) (pe_glob (v := .int 0) rfl v_INPUT ⟨_, rfl⟩) (nomark _)) (pss_one (ps_ret (pe_call G_input_name (hr.mono (by decide)) rfl T.g_input_name T.F_input_name.kp (b_input_name T) .nil pass0 (pa_cons (pe_ix ix_tup (pv 1) pe_int (fun _ _ => rfl)) pa_nil)))) pss_nil)
    (pss_cons (ps_if (pt_cmpR op_eq (pe_ix ix_tup (pv 1) pe_int (fun _ _ => rfl)) (pe_glob (v := .int 1) rfl v_CONSTANT ⟨_, rfl⟩) (nomark _)) (pss_one (ps_ret (pe_call G_constant_name (hr.mono (by decide)) rfl T.g_constant_name T.F_constant_name.kp (b_constant_name T) .nil pass0 (pa_cons (pe_ix ix_tup (pv 1) pe_int (fun _ _ => rfl)) (pa_cons (pe_ix ix_tup (pv 1) pe_int (fun _ _ => rfl)) pa_nil))))) pss_nil)
    (pss_one (ps_ret (pe_fs (.cons pe_str (.cons (pe_fmt (pv 0)) .nil))))))), ?_⟩
  obtain ⟨i, p, l, rfl, hpl, ⟨hz, hs, hk⟩, k⟩ := h
  have zl : sizeLine = 16777216 := rfl
  have l2 : (Str.ofString "t").length = 1 := rfl
  have ilt : ((i : Int)).natAbs < 2 ^ 17 := by show ((i : Int)).natAbs < 131072; omega
  have n1 := int_len ilt
  have g1 : ((i : Int)).natAbs.log2 < 1920 := Nat.lt_of_lt_of_le (log_lt ilt (by decide)) (by decide)
  cases l with
  | input a =>
    have ha := hk a rfl
    refine ⟨_, rfl, _, _, _, _, rfl, rfl, SqT.of hpl, rfl, rfl, _, rfl, ifT rfl ?_⟩
    exact ⟨_, rfl, _, _, _, _, rfl, rfl, SqT.of hpl, rfl, a, rfl, by omega, k⟩
  | num a =>
    refine ⟨_, rfl, _, _, _, _, rfl, rfl, SqT.of hpl, rfl, rfl, _, rfl, ifF rfl ?_⟩
    refine ⟨_, rfl, _, _, _, _, rfl, rfl, SqT.of hpl, rfl, rfl, _, rfl, ifT rfl ?_⟩
    refine ⟨_, rfl, _, _, _, _, rfl, rfl, SqT.of hpl, rfl, _, rfl, _, _, _, _, rfl, rfl, SqT.of hpl, rfl, ?_⟩
    have sm : Vagrai.small a = true := by
      have z : (!Vagrai.small a) = false := hs
      cases q : Vagrai.small a with
      | true => rfl
      | false => rw [q] at z; cases z
    exact ⟨a, rfl, sm, k⟩
  | _ =>
    refine ⟨_, rfl, _, _, _, _, rfl, rfl, SqT.of hpl, rfl, rfl, _, rfl, ifF rfl ?_⟩
    refine ⟨_, rfl, _, _, _, _, rfl, rfl, SqT.of hpl, rfl, rfl, _, rfl, ifF rfl ?_⟩
    refine ⟨_, rfl, by simp only [slen, slen_empty]; omega, _, rfl, .inr ⟨_, rfl, g1, _, rfl, by simp only [slen, slen_empty]; omega, ?_⟩⟩
    exact k _ (named_codes rfl)
/-- the lines that texts are of -/
structure Textual (c : List Line) : Prop where
  few : c.length ≤ 100000
  small : ∀ l ∈ c, isLarge l = false
  inputs : ∀ (l : Line) (k : Nat), l ∈ c → l = .input k → k ≤ 1000
theorem dec_len {n k : Nat} (h : n < 2 ^ k) : (Vagraa.decimal n).length ≤ k + 1 := by
  have := decimal_len n
  have := bits_lt h
  omega
theorem constant_len {a : Frac} (h : Vagrai.small a = true) : (Vagrai.constant a).length ≤ 130 := by
  obtain ⟨b1, b2⟩ := small_num h
  have n1 := signed_len b1
  have n2 := dec_len b2
  have n3 := dec_len b1
  unfold Vagrai.constant
  split
  · omega
  · rw [List.length_cons, List.length_append, List.length_append]
    split
    · simp; omega
    · simp; omega
theorem nameOf_len {c : List Line} {i : Nat} (t : Textual c) (hi : i < c.length) : (Vagrai.nameOf c i).length ≤ 130 := by
  have e := List.getElem?_eq_getElem hi
  rw [nameOf_at e]
  have m := List.mem_of_getElem? e
  generalize c[i] = l at m
  have ilt : i < 2 ^ 17 := by show i < 131072; have := t.few; omega
  have n1 := dec_len ilt
  have tl : (Vagrai.named 116 i).length ≤ 130 := by show (116 :: Vagraa.decimal i).length ≤ 130; rw [List.length_cons]; omega
  cases l with
  | input k =>
    have kl := t.inputs _ k m rfl
    have n2 := dec_len (n := k) (k := 17) (by show k < 131072; omega)
    show (120 :: Vagraa.decimal k).length ≤ 130
    rw [List.length_cons]; omega
  | num a =>
    have z : (!Vagrai.small a) = false := t.small _ m
    refine constant_len ?_
    cases q : Vagrai.small a with
    | true => rfl
    | false => rw [q] at z; cases z
  | _ => exact tl
/-- a line's part of a text -/
def letOf (c : List Line) (i : Nat) (l : Line) : Vagraa.Bytes := match Vagrai.lineText c l with
  | some t => Vagrai.wLet ++ (Vagrai.named 116 i ++ (Vagrai.wEq ++ (t ++ Vagrai.wIn)))
  | none => []
theorem op_text {c : List Line} {l : Line} (h : l.isOp = true) : ∃ b, Vagrai.lineText c l = some b := by
  cases l <;> first | exact ⟨_, rfl⟩ | cases h
/-- a line's name as a text -/
def nameS (c : List Line) (u : Nat) : Str := ⟨(Vagrai.nameOf c u).toArray⟩
theorem nameS_codes (c : List Line) (u : Nat) : codes (nameS c u) = Vagrai.nameOf c u := rfl
theorem nameS_len {c : List Line} {u : Nat} (t : Textual c) (h : u < c.length) : (nameS c u).length ≤ 130 := by rw [← codes_len, nameS_codes]; exact nameOf_len t h
theorem nameS_of {c : List Line} {u : Nat} {s : Str} (h : codes s = Vagrai.nameOf c u) : s = nameS c u := codes_inj h
def namesV (c : List Line) : List V := ((List.range c.length).map (nameS c)).map V.str
theorem namesV_at {c : List Line} {u : Nat} (h : u < c.length) : (namesV c)[u]? = some (V.str (nameS c u)) := by
  unfold namesV
  rw [List.getElem?_map, List.getElem?_map, List.getElem?_range h]
  rfl
def spLet : Sp := fun vs H Q _ => ∃ (i : Nat) (p na : Addr) (l : Line) (c : List Line), vs = [.int (i : Int), .ref p, .ref na] ∧ H p = some (.tup (lineV l)) ∧ H na = some (.lst (namesV c)) ∧ c[i]? = some l ∧ (∀ u ∈ l.uses, u < c.length) ∧ Textual c ∧ l.isOp = true ∧
  ∀ (H' : Hp) (s : Str), Same H H' → codes s = letOf c i l → s.length ≤ 500 → Q (.str s) H'
theorem ok_let_part (T : Txt K mg D) : FnOk P w K mg base CX0 3 D.a_let_part D.d_let_part P_let_part (spLet) := by
  have G_made_of := ok_made_of (P := P) (w := w) (base := base) T
  obtain ⟨t_OPPOSITE, v_OPPOSITE⟩ := T.v_OPPOSITE
  refine T.F_let_part.ok sc_let_part (fun vs H Q E h => by first | (obtain ⟨rfl, _⟩ := h; rfl) | (obtain ⟨_, rfl, _⟩ := h; rfl) | (obtain ⟨_, _, rfl, _⟩ := h; rfl) | (obtain ⟨_, _, _, rfl, _⟩ := h; rfl) | (obtain ⟨_, _, _, _, rfl, _⟩ := h; rfl) | (obtain ⟨_, _, _, _, _, rfl, _⟩ := h; rfl) | (obtain ⟨_, _, _, _, _, _, rfl, _⟩ := h; rfl) | (obtain ⟨_, _, _, _, _, _, _, rfl, _⟩ := h; rfl) | (obtain ⟨_, _, _, _, _, _, _, _, rfl, _⟩ := h; rfl) | (obtain ⟨_, _, _, _, _, _, _, _, _, rfl, _⟩ := h; rfl) | (obtain ⟨_, _, _, _, _, _, _, _, _, _, rfl, _⟩ := h; rfl) | (obtain ⟨_, _, _, _, _, _, _, _, _, _, _, rfl, _⟩ := h; rfl) | (obtain ⟨_, _, _, _, _, _, _, _, _, _, _, _, rfl, _⟩ := h; rfl)) (fun cdv A outer s H vs Q E hr h => ?_)
  refine ⟨_, (pss_cons (ps_setLc (i := 3) (own := [("j", 6)]) (g := gName 6) (tt := tYes) rfl sc_let_part.nd rfl rfl (sw_true rfl rfl rfl (by decide +kernel)) (pi_tup (pe_call G_made_of (hr.mono (by decide)) rfl T.g_made_of T.F_made_of.kp (b_made_of T) .nil pass0 (pa_cons (pv 1) pa_nil))) (blkOk_by (own := [("j", 6)]) (N := N_let_part) (sc := defScope s_let_part) (by decide +kernel)) (fun _ _ _ _ _ => pg_name (i := 6) sc_let_part.nd rfl (Or.inl rfl)) (fun _ _ _ _ _ => pts_nil) (fun _ _ _ _ _ => (pe_ix (ix_listK (K := K) rfl) (pv 2) (pv 6) (fun _ _ => rfl))))
    (pss_cons (ps_set (i := 4) sc_let_part.nd rfl (.inl rfl) (pe_ix ix_tup (pe_glob (v := .ref D.k_SIGNS) rfl T.v_SIGNS rfl) (pe_ix ix_tup (pv 1) pe_int (fun _ _ => rfl)) (fun _ _ => rfl)))
    (pss_cons (ps_set (i := 5) sc_let_part.nd rfl (.inl rfl) (pe_ifExp (pt_cmpR op_eq (pe_ix ix_tup (pv 1) pe_int (fun _ _ => rfl)) (pe_glob (v := .int 6) rfl v_OPPOSITE ⟨_, rfl⟩) (nomark _)) (pe_op op_add_str (pv 4) (pe_ix ix_list (pv 3) pe_int (fun _ _ => rfl))) (pe_op op_add_str (pe_op op_add_str (pe_op op_add_str (pe_op op_add_str (pe_ix ix_list (pv 3) pe_int (fun _ _ => rfl)) pe_str) (pv 4)) pe_str) (pe_ix ix_list (pv 3) pe_int (fun _ _ => rfl)))))
    (pss_one (ps_ret (pe_op op_add_str (pe_op op_add_str (pe_op op_add_str (pe_op op_add_str pe_str (pe_ix ix_list (pv 2) (pv 0) (fun _ _ => rfl))) pe_str) (pv 5)) pe_str)))))), ?_⟩
  obtain ⟨i, p, na, l, c, rfl, hp, hn, hl, hu, t, hop, k⟩ := h
  have zl : sizeLine = 16777216 := rfl
  have il : i < c.length := (List.getElem?_eq_some_iff.mp hl).1
  -- used = [names[j] for j in made_of(line)]
  refine ⟨_, rfl, p, l, rfl, hp, fun H1 u s1 nu hu1 => ⟨u, rfl, ⟨_, SqT.of hu1⟩, fun M hM => lc_tup (K := K) (a := u) (xs := l.uses.map natV)
    (fun i H' => Same H1 H' ∧ H' M = some (.lst (((l.uses.take i).map (nameS c)).map V.str))) ⟨same_upd hM, upd_same⟩ (fun i H' _ e => SqT.of (e.1 _ _ hu1)) (fun i y H' hi e => ?_) (fun H2 e => ?_)⟩⟩
  · obtain ⟨s2, h2⟩ := e
    rw [List.getElem?_map] at hi
    cases hx : l.uses[i]? with
    | none => rw [hx] at hi; cases hi
    | some x =>
      rw [hx] at hi
      obtain rfl : natV x = y := Option.some.inj hi
      have ul := uses_len l
      have xl := hu x (List.mem_of_getElem? hx)
      refine ⟨rfl, ?_⟩
      refine ⟨_, rfl, _, rfl, na, _, (x : Int), V.str (nameS c x), rfl, rfl, SqL.of (s2 _ _ (s1 _ _ hn)), atI_nat (namesV_at xl), _, h2, by rw [List.length_map, List.length_map, List.length_take]; omega, fun b o z => (upd_ne (ne_of_none z hM)).trans (s2 _ _ z), ?_⟩
      rw [upd_same, take_snoc hx, List.map_append, List.map_append]
      rfl
  obtain ⟨s2, h2⟩ := e
  rw [List.length_map, List.take_length] at h2
  have s12 := s1.trans s2
  have hp2 := s12 _ _ hp
  have hn2 := s12 _ _ hn
  obtain ⟨tb, htb⟩ := op_text (c := c) hop
  -- the end: "let " + names[i] + " = " + what + " in "
  have el : letOf c i l = [108, 101, 116, 32] ++ (Vagrai.nameOf c i ++ ([32, 61, 32] ++ (tb ++ [32, 105, 110, 32]))) := by
    have en : Vagrai.nameOf c i = Vagrai.named 116 i := by rw [nameOf_at hl]; cases l <;> first | rfl | cases hop
    unfold letOf
    rw [htb, en]
    rfl
  have ni := nameS_len t il
  have k1 : (Str.ofString "let ").length = 4 := rfl
  have k2 : (Str.ofString " = ").length = 3 := rfl
  have k3 : (Str.ofString " in ").length = 4 := rfl
  have k4 : (Str.ofString " ").length = 1 := rfl
  have k5 : (Str.ofString "-").length = 1 := rfl
  have k6 : (Str.ofString "+").length = 1 := rfl
  have k7 : (Str.ofString "*").length = 1 := rfl
  have k8 : (Str.ofString "/").length = 1 := rfl
  have fin : ∀ w : Str, codes w = tb → w.length ≤ 263 → codes (Str.ofString "let " ++ nameS c i ++ Str.ofString " = " ++ w ++ Str.ofString " in ") = letOf c i l := fun w hw _ => by
    rw [el]
    simp only [codes_append, nameS_codes, hw]
    show [108, 101, 116, 32] ++ _ ++ [32, 61, 32] ++ _ ++ [32, 105, 110, 32] = _
    simp
  -- sign = SIGNS[line[0]]
  cases l with
  | input a => cases hop
  | num a => cases hop
  | neg a =>
    have ua := nameS_len t (hu a List.mem_cons_self)
    refine ⟨_, rfl, _, _, _, _, rfl, rfl, SqT.of hp2, rfl, _, _, _, _, rfl, rfl, T.t_SIGNS _, rfl, ?_⟩
    refine ⟨_, rfl, _, _, _, _, rfl, rfl, SqT.of hp2, rfl, rfl, _, rfl, ifT rfl ?_⟩
    refine ⟨_, rfl, _, rfl, M, _, _, .str (nameS c a), rfl, rfl, SqL.of h2, rfl, _, _, rfl, rfl, by omega, ?_⟩
    have hw : codes (Str.ofString "-" ++ nameS c a) = tb := by
      rw [codes_append, nameS_codes]
      cases htb
      rfl
    have lw : (Str.ofString "-" ++ nameS c a).length ≤ 263 := by rw [slen, k5]; omega
    generalize Str.ofString "-" ++ nameS c a = w at hw lw
    refine ⟨_, rfl, _, rfl, na, _, (i : Int), V.str (nameS c i), rfl, rfl, SqL.of hn2, atI_nat (namesV_at il), _, _, rfl, rfl, by omega, ?_⟩
    refine ⟨_, _, rfl, rfl, by rw [slen]; omega, ?_⟩
    refine ⟨_, rfl, _, _, rfl, rfl, by rw [slen, slen]; omega, ?_⟩
    refine ⟨_, _, rfl, rfl, by rw [slen, slen, slen]; omega, ?_⟩
    exact k _ _ s12 (fin _ hw lw) (by rw [slen, slen, slen, slen]; omega)
  | add a b =>
    have ua := nameS_len t (hu a List.mem_cons_self)
    have ub := nameS_len t (hu b (List.mem_cons_of_mem _ List.mem_cons_self))
    refine ⟨_, rfl, _, _, _, _, rfl, rfl, SqT.of hp2, rfl, _, _, _, _, rfl, rfl, T.t_SIGNS _, rfl, ?_⟩
    refine ⟨_, rfl, _, _, _, _, rfl, rfl, SqT.of hp2, rfl, rfl, _, rfl, ifF rfl ?_⟩
    refine ⟨_, rfl, M, _, _, .str (nameS c a), rfl, rfl, SqL.of h2, rfl, _, _, rfl, rfl, by omega, ?_⟩
    refine ⟨_, rfl, _, _, rfl, rfl, by rw [slen]; omega, ?_⟩
    refine ⟨_, _, rfl, rfl, by rw [slen, slen]; omega, ?_⟩
    refine ⟨_, rfl, M, _, _, .str (nameS c b), rfl, rfl, SqL.of h2, rfl, _, _, rfl, rfl, by rw [slen, slen, slen]; omega, ?_⟩
    have hw : codes (nameS c a ++ Str.ofString " " ++ Str.ofString "+" ++ Str.ofString " " ++ nameS c b) = tb := by
      simp only [codes_append, nameS_codes]
      cases htb
      show _ ++ [32] ++ [43] ++ [32] ++ _ = _
      simp
    have lw : (nameS c a ++ Str.ofString " " ++ Str.ofString "+" ++ Str.ofString " " ++ nameS c b).length ≤ 263 := by rw [slen, slen, slen, slen]; omega
    generalize nameS c a ++ Str.ofString " " ++ Str.ofString "+" ++ Str.ofString " " ++ nameS c b = w at hw lw
    refine ⟨_, rfl, _, rfl, na, _, (i : Int), V.str (nameS c i), rfl, rfl, SqL.of hn2, atI_nat (namesV_at il), _, _, rfl, rfl, by omega, ?_⟩
    refine ⟨_, _, rfl, rfl, by rw [slen]; omega, ?_⟩
    refine ⟨_, rfl, _, _, rfl, rfl, by rw [slen, slen]; omega, ?_⟩
    refine ⟨_, _, rfl, rfl, by rw [slen, slen, slen]; omega, ?_⟩
    exact k _ _ s12 (fin _ hw lw) (by rw [slen, slen, slen, slen]; omega)
  | sub a b =>
    have ua := nameS_len t (hu a List.mem_cons_self)
    have ub := nameS_len t (hu b (List.mem_cons_of_mem _ List.mem_cons_self))
    refine ⟨_, rfl, _, _, _, _, rfl, rfl, SqT.of hp2, rfl, _, _, _, _, rfl, rfl, T.t_SIGNS _, rfl, ?_⟩
    refine ⟨_, rfl, _, _, _, _, rfl, rfl, SqT.of hp2, rfl, rfl, _, rfl, ifF rfl ?_⟩
    refine ⟨_, rfl, M, _, _, .str (nameS c a), rfl, rfl, SqL.of h2, rfl, _, _, rfl, rfl, by omega, ?_⟩
    refine ⟨_, rfl, _, _, rfl, rfl, by rw [slen]; omega, ?_⟩
    refine ⟨_, _, rfl, rfl, by rw [slen, slen]; omega, ?_⟩
    refine ⟨_, rfl, M, _, _, .str (nameS c b), rfl, rfl, SqL.of h2, rfl, _, _, rfl, rfl, by rw [slen, slen, slen]; omega, ?_⟩
    have hw : codes (nameS c a ++ Str.ofString " " ++ Str.ofString "-" ++ Str.ofString " " ++ nameS c b) = tb := by
      simp only [codes_append, nameS_codes]
      cases htb
      show _ ++ [32] ++ [45] ++ [32] ++ _ = _
      simp
    have lw : (nameS c a ++ Str.ofString " " ++ Str.ofString "-" ++ Str.ofString " " ++ nameS c b).length ≤ 263 := by rw [slen, slen, slen, slen]; omega
    generalize nameS c a ++ Str.ofString " " ++ Str.ofString "-" ++ Str.ofString " " ++ nameS c b = w at hw lw
    refine ⟨_, rfl, _, rfl, na, _, (i : Int), V.str (nameS c i), rfl, rfl, SqL.of hn2, atI_nat (namesV_at il), _, _, rfl, rfl, by omega, ?_⟩
    refine ⟨_, _, rfl, rfl, by rw [slen]; omega, ?_⟩
    refine ⟨_, rfl, _, _, rfl, rfl, by rw [slen, slen]; omega, ?_⟩
    refine ⟨_, _, rfl, rfl, by rw [slen, slen, slen]; omega, ?_⟩
    exact k _ _ s12 (fin _ hw lw) (by rw [slen, slen, slen, slen]; omega)
  | mul a b =>
    have ua := nameS_len t (hu a List.mem_cons_self)
    have ub := nameS_len t (hu b (List.mem_cons_of_mem _ List.mem_cons_self))
    refine ⟨_, rfl, _, _, _, _, rfl, rfl, SqT.of hp2, rfl, _, _, _, _, rfl, rfl, T.t_SIGNS _, rfl, ?_⟩
    refine ⟨_, rfl, _, _, _, _, rfl, rfl, SqT.of hp2, rfl, rfl, _, rfl, ifF rfl ?_⟩
    refine ⟨_, rfl, M, _, _, .str (nameS c a), rfl, rfl, SqL.of h2, rfl, _, _, rfl, rfl, by omega, ?_⟩
    refine ⟨_, rfl, _, _, rfl, rfl, by rw [slen]; omega, ?_⟩
    refine ⟨_, _, rfl, rfl, by rw [slen, slen]; omega, ?_⟩
    refine ⟨_, rfl, M, _, _, .str (nameS c b), rfl, rfl, SqL.of h2, rfl, _, _, rfl, rfl, by rw [slen, slen, slen]; omega, ?_⟩
    have hw : codes (nameS c a ++ Str.ofString " " ++ Str.ofString "*" ++ Str.ofString " " ++ nameS c b) = tb := by
      simp only [codes_append, nameS_codes]
      cases htb
      show _ ++ [32] ++ [42] ++ [32] ++ _ = _
      simp
    have lw : (nameS c a ++ Str.ofString " " ++ Str.ofString "*" ++ Str.ofString " " ++ nameS c b).length ≤ 263 := by rw [slen, slen, slen, slen]; omega
    generalize nameS c a ++ Str.ofString " " ++ Str.ofString "*" ++ Str.ofString " " ++ nameS c b = w at hw lw
    refine ⟨_, rfl, _, rfl, na, _, (i : Int), V.str (nameS c i), rfl, rfl, SqL.of hn2, atI_nat (namesV_at il), _, _, rfl, rfl, by omega, ?_⟩
    refine ⟨_, _, rfl, rfl, by rw [slen]; omega, ?_⟩
    refine ⟨_, rfl, _, _, rfl, rfl, by rw [slen, slen]; omega, ?_⟩
    refine ⟨_, _, rfl, rfl, by rw [slen, slen, slen]; omega, ?_⟩
    exact k _ _ s12 (fin _ hw lw) (by rw [slen, slen, slen, slen]; omega)
  | div a b =>
    have ua := nameS_len t (hu a List.mem_cons_self)
    have ub := nameS_len t (hu b (List.mem_cons_of_mem _ List.mem_cons_self))
    refine ⟨_, rfl, _, _, _, _, rfl, rfl, SqT.of hp2, rfl, _, _, _, _, rfl, rfl, T.t_SIGNS _, rfl, ?_⟩
    refine ⟨_, rfl, _, _, _, _, rfl, rfl, SqT.of hp2, rfl, rfl, _, rfl, ifF rfl ?_⟩
    refine ⟨_, rfl, M, _, _, .str (nameS c a), rfl, rfl, SqL.of h2, rfl, _, _, rfl, rfl, by omega, ?_⟩
    refine ⟨_, rfl, _, _, rfl, rfl, by rw [slen]; omega, ?_⟩
    refine ⟨_, _, rfl, rfl, by rw [slen, slen]; omega, ?_⟩
    refine ⟨_, rfl, M, _, _, .str (nameS c b), rfl, rfl, SqL.of h2, rfl, _, _, rfl, rfl, by rw [slen, slen, slen]; omega, ?_⟩
    have hw : codes (nameS c a ++ Str.ofString " " ++ Str.ofString "/" ++ Str.ofString " " ++ nameS c b) = tb := by
      simp only [codes_append, nameS_codes]
      cases htb
      show _ ++ [32] ++ [47] ++ [32] ++ _ = _
      simp
    have lw : (nameS c a ++ Str.ofString " " ++ Str.ofString "/" ++ Str.ofString " " ++ nameS c b).length ≤ 263 := by rw [slen, slen, slen, slen]; omega
    generalize nameS c a ++ Str.ofString " " ++ Str.ofString "/" ++ Str.ofString " " ++ nameS c b = w at hw lw
    refine ⟨_, rfl, _, rfl, na, _, (i : Int), V.str (nameS c i), rfl, rfl, SqL.of hn2, atI_nat (namesV_at il), _, _, rfl, rfl, by omega, ?_⟩
    refine ⟨_, _, rfl, rfl, by rw [slen]; omega, ?_⟩
    refine ⟨_, rfl, _, _, rfl, rfl, by rw [slen, slen]; omega, ?_⟩
    refine ⟨_, _, rfl, rfl, by rw [slen, slen, slen]; omega, ?_⟩
    exact k _ _ s12 (fin _ hw lw) (by rw [slen, slen, slen, slen]; omega)
end Lc
set_option Elab.async false
set_option linter.all false
set_option maxRecDepth 100000
set_option maxHeartbeats 4000000
namespace Lc
open PySem PySem.Spec PyProof.Rows L2
open Vagraa (Frac frac)
open VagraLine (Line)
open Vagrai (Prog Work)
variable {P : Program} {w : World} {K : PySem.W.Frag} {mg : Str → Option Value} {base : Heap} {D : Ad}
theorem codes_glue {sep : Str} (h : codes sep = []) : ∀ l : List Str, codes (Str.join sep l) = l.flatMap codes
  | [] => rfl
  | [x] => by show codes x = codes x ++ []; rw [List.append_nil]
  | x :: y :: r => by
    show codes (x ++ sep ++ Str.join sep (y :: r)) = _
    rw [codes_append, codes_append, codes_glue h (y :: r), h, List.append_nil]
    rfl
theorem sum_le {l : List Nat} {m : Nat} (h : ∀ x ∈ l, x ≤ m) : l.sum ≤ l.length * m := by
  induction l with
  | nil => simp
  | cons a r ih =>
    have h1 := h a List.mem_cons_self
    have h2 := ih fun x hx => h x (List.mem_cons_of_mem _ hx)
    rw [List.sum_cons, List.length_cons, Nat.add_mul]
    omega
theorem join_len (sep : Str) (l : List Str) {m : Nat} (h : ∀ s ∈ l, s.length ≤ m) : (Str.join sep l).length ≤ l.length * (m + sep.length) := by
  induction l with
  | nil => show 0 ≤ _; omega
  | cons x r ih =>
    have h1 := h x List.mem_cons_self
    have h2 := ih fun s hs => h s (List.mem_cons_of_mem _ hs)
    rw [List.length_cons, Nat.add_mul]
    cases r with
    | nil => show x.length ≤ _; omega
    | cons y q =>
      show (x ++ sep ++ Str.join sep (y :: q)).length ≤ _
      rw [slen, slen]
      omega
theorem tell_textual {p : Prog} (ok : ProgOk p) (hz : p.code.length ≤ 20000) (hi : p.inputs ≤ 1000) (ht : Vagrai.tellable p = true) : Textual p.code := by
  rw [tellable_is] at ht
  simp only [Bool.and_eq_true] at ht
  refine ⟨by omega, fun l hl => ?_, fun l k hl e => ?_⟩
  · have z := List.all_eq_true.mp ht.2.2.2.2 l hl
    cases q : isLarge l with
    | false => rfl
    | true => rw [q] at z; cases z
  · obtain ⟨i, hi2⟩ := List.getElem?_of_mem hl
    have o := (ok.code i l hi2).inp k e
    omega
theorem lets_cons (c : List Line) (i : Nat) (l : Line) (r : List Line) : Vagrai.letsFrom c i (l :: r) = letOf c i l ++ Vagrai.letsFrom c (i + 1) r := rfl
theorem no_text {c : List Line} {l : Line} (h : l.isOp = false) : Vagrai.lineText c l = none := by
  cases l <;> first | rfl | cases h
theorem inName_len {j : Nat} (h : j < 100) : (⟨(Vagrai.named 120 j).toArray⟩ : Str).length ≤ 130 := by
  have q := dec_len (n := j) (k := 17) (by show j < 131072; omega)
  show (120 :: Vagraa.decimal j).toArray.size ≤ 130
  rw [List.size_toArray, List.length_cons]
  omega
theorem namesV_snoc (c : List Line) (i : Nat) : ((List.range i).map (nameS c)).map V.str ++ [V.str (nameS c i)] = ((List.range (i + 1)).map (nameS c)).map V.str := by
  rw [List.range_succ, List.map_append, List.map_append]
  rfl
def spTextOf (K : PySem.W.Frag) (D : Ad) : Sp := fun vs H Q E => ∃ (pa : Addr) (p : Prog), vs = [.ref pa] ∧ ProgAt D H pa p ∧ ProgOk p ∧ p.code.length ≤ 20000 ∧ (Vagrai.tellable p = false → RaiseN K D.c_Refusal H E (-7)) ∧ (Vagrai.tellable p = true → ∀ (H' : Hp) (s : Str), Same H H' → codes s = Vagrai.text p → s.length ≤ 11000000 → Q (.str s) H')
theorem ok_text_of (T : Txt K mg D) : FnOk P w K mg base (L2.CX P w) 5 D.a_text_of D.d_text_of P_text_of (spTextOf K D) := by
  have G_check_text := ok_check_text (P := P) (w := w) (base := base) T
  have G_input_name := ok_input_name (P := P) (w := w) (base := base) T
  have G_line_name := ok_line_name (P := P) (w := w) (base := base) T
  have G_let_part := ok_let_part (P := P) (w := w) (base := base) T
  have G_is_operation := ok_is_operation (P := P) (w := w) (base := base) T
  refine T.F_text_of.okX sc_text_of (fun vs H Q E h => by first | (obtain ⟨rfl, _⟩ := h; rfl) | (obtain ⟨_, rfl, _⟩ := h; rfl) | (obtain ⟨_, _, rfl, _⟩ := h; rfl) | (obtain ⟨_, _, _, rfl, _⟩ := h; rfl) | (obtain ⟨_, _, _, _, rfl, _⟩ := h; rfl) | (obtain ⟨_, _, _, _, _, rfl, _⟩ := h; rfl) | (obtain ⟨_, _, _, _, _, _, rfl, _⟩ := h; rfl) | (obtain ⟨_, _, _, _, _, _, _, rfl, _⟩ := h; rfl) | (obtain ⟨_, _, _, _, _, _, _, _, rfl, _⟩ := h; rfl) | (obtain ⟨_, _, _, _, _, _, _, _, _, rfl, _⟩ := h; rfl) | (obtain ⟨_, _, _, _, _, _, _, _, _, _, rfl, _⟩ := h; rfl) | (obtain ⟨_, _, _, _, _, _, _, _, _, _, _, rfl, _⟩ := h; rfl) | (obtain ⟨_, _, _, _, _, _, _, _, _, _, _, _, rfl, _⟩ := h; rfl)) (fun cdv A outer s H vs Q E hr h => ?_)
  refine ⟨_, (pss_cons (ps_expr (pe_call G_check_text (hr.mono (by decide)) rfl T.g_check_text T.F_check_text.kp (b_check_text T) .nil (passes_call (takes_of rfl rfl rfl rfl) (fun _ _ _ _ z => z)) (pa_cons (pv 0) pa_nil)))
    (pss_cons (ps_set (i := 1) sc_text_of.nd rfl (.inl rfl) (pe_join pe_str (pe_lc (own := [("k", 7)]) (g := gName 7) (tt := tYes) rfl sc_text_of.nd (pi_range1 rfl T.f_range (pa_cons (pe_fld (pv 0) rfl) pa_nil)) (blkOk_by (own := [("k", 7)]) (N := N_text_of) (sc := defScope s_text_of) (by decide +kernel)) (fun _ _ _ _ _ => pg_name (i := 7) sc_text_of.nd rfl (Or.inl rfl)) (fun _ _ _ _ _ => pts_nil) (fun _ _ _ _ _ => (pe_call G_input_name (hr.mono (by decide)) rfl T.g_input_name T.F_input_name.kp (b_input_name T) .nil pass0 (pa_cons (pv 7) pa_nil))))))
    (pss_cons (ps_set (i := 2) sc_text_of.nd rfl (.inr rfl) (pe_lc (own := [("i", 5), ("line", 6)]) (g := gTup K 2 (gCons (gName 5) (gCons (gName 6) gNil))) (tt := tYes) rfl sc_text_of.nd (pi_enum (by rfl) T.f_enumerate (pa_cons (pe_fld (pv 0) rfl) pa_nil)) (blkOk_by (own := [("i", 5), ("line", 6)]) (N := N_text_of) (sc := defScope s_text_of) (by decide +kernel)) (fun _ _ _ _ _ => pg_tupK (K := K) rfl rfl (pgs_cons (pg_name (i := 5) sc_text_of.nd rfl (Or.inl rfl)) (pgs_cons (pg_name (i := 6) sc_text_of.nd rfl (Or.inl rfl)) pgs_nil))) (fun _ _ _ _ _ => pts_nil) (fun _ _ _ _ _ => (pe_call G_line_name (hr.mono (by decide)) rfl T.g_line_name T.F_line_name.kp (b_line_name T) .nil pass0 (pa_cons (pv 5) (pa_cons (pv 6) pa_nil))))))
    (pss_cons (ps_setLc (i := 3) (own := [("i", 5), ("line", 6)]) (g := gTup K 2 (gCons (gName 5) (gCons (gName 6) gNil))) rfl sc_text_of.nd rfl rfl (sw_true rfl rfl rfl (by decide +kernel)) (pi_enum (by rfl) T.f_enumerate (pa_cons (pe_fld (pv 0) rfl) pa_nil)) (blkOk_by (own := [("i", 5), ("line", 6)]) (N := N_text_of) (sc := defScope s_text_of) (by decide +kernel)) (fun _ _ _ _ _ => pg_tupK (K := K) rfl rfl (pgs_cons (pg_name (i := 5) sc_text_of.nd rfl (Or.inl rfl)) (pgs_cons (pg_name (i := 6) sc_text_of.nd rfl (Or.inl rfl)) pgs_nil))) (fun _ _ _ _ _ => pts_one (pt_val (pe_call G_is_operation (hr.mono (by decide)) rfl T.g_is_operation T.F_is_operation.kp (b_is_operation T) .nil pass0 (pa_cons (pv 6) pa_nil)))) (fun _ _ _ _ _ => (pe_call G_let_part (hr.mono (by decide)) rfl T.g_let_part T.F_let_part.kp (b_let_part T) .nil pass0 (pa_cons (pv 5) (pa_cons (pv 6) (pa_cons (pv 2) pa_nil))))))
    (pss_cons (ps_set (i := 4) sc_text_of.nd rfl (.inl rfl) (pe_join pe_str (pe_lc (own := [("out", 8)]) (g := gName 8) (tt := tYes) rfl sc_text_of.nd (pi_list (pe_fld (pv 0) rfl)) (blkOk_by (own := [("out", 8)]) (N := N_text_of) (sc := defScope s_text_of) (by decide +kernel)) (fun _ _ _ _ _ => pg_name (i := 8) sc_text_of.nd rfl (Or.inl rfl)) (fun _ _ _ _ _ => pts_nil) (fun _ _ _ _ _ => (pe_ix (ix_listK (K := K) rfl) (pv 2) (pv 8) (fun _ _ => rfl))))))
    (pss_one (ps_ret (pe_op op_add_str (pe_op op_add_str (pe_op op_add_str (pe_op op_add_str (pe_op op_add_str (pe_op op_add_str pe_str (pv 1)) pe_str) (pe_join pe_str (pv 3))) pe_str) (pv 4)) pe_str)))))))), ?_⟩
  obtain ⟨pa, p, rfl, ⟨dp, pl, po, ps, hP⟩, ok, hz, kr, ks⟩ := h
  have zl : sizeLine = 16777216 := rfl
  -- check_text(program)
  refine ⟨_, rfl, pa, p, rfl, ⟨dp, pl, po, ps, hP⟩, by omega, kr, fun ht H0 s0 => ?_⟩
  have k := ks ht
  clear kr ks
  have htt := ht
  rw [tellable_is] at htt
  simp only [Bool.and_eq_true] at htt
  have ti := of_decide_eq_true htt.1
  have to1 := of_decide_eq_true htt.2.1
  have to2 := of_decide_eq_true htt.2.2.1
  have tx := tell_textual ok hz (by omega) ht
  clear htt
  have hP0 := hP.same s0
  -- inputs = ", ".join([input_name(k) for k in range(program.inputs)])
  let nm : Nat → Str := fun j => ⟨(Vagrai.named 120 j).toArray⟩
  refine ⟨⟨_, rfl⟩, _, rfl, pa, _, dp, _, _, rfl, hP0.obj, T.cl_Program, T.n_Program_inputs, lk_inputs _ _ _, (p.inputs : Int), rfl, by omega, by omega, fun M hM => ?_⟩
  have en : ((p.inputs : Int)).toNat = p.inputs := by omega
  rw [en]
  refine lc_range (lo := 0) (n := p.inputs) (fun i H' => Same H0 H' ∧ H' M = some (.lst (((List.range i).map nm).map V.str))) ⟨same_upd hM, upd_same⟩ (fun i H' hi e => ?_) (fun H1 e => ?_)
  · obtain ⟨s1, h1⟩ := e
    have e0 : (0 + (i : Int)) = ((i : Nat) : Int) := by omega
    rw [e0]
    refine ⟨rfl, _, rfl, i, rfl, by omega, fun s es => ?_⟩
    obtain rfl : s = nm i := codes_inj es
    refine ⟨_, h1, by simp; omega, fun b o z => (upd_ne (ne_of_none z hM)).trans (s1 _ _ z), ?_⟩
    rw [upd_same, List.range_succ, List.map_append, List.map_append]
    rfl
  obtain ⟨s1, h1⟩ := e
  have nm1 : ∀ s ∈ (List.range p.inputs).map nm, s.length ≤ 130 := fun s hs => by
    obtain ⟨j, hj, rfl⟩ := List.mem_map.mp hs
    have := List.mem_range.mp hj
    exact inName_len (by omega)
  refine ⟨_, M, _, rfl, rfl, .inl (SqL.of h1), ?_, ?_⟩
  · have a := sum_le (l := ((List.range p.inputs).map nm).map (·.length)) (m := 130) fun x hx => by
      obtain ⟨s, hs, rfl⟩ := List.mem_map.mp hx
      exact nm1 s hs
    rw [show (Str.ofString ", ").length = 2 from rfl]
    simp only [List.length_map, List.length_range] at a ⊢
    omega
  rw [TL.join_eq]
  have inL := join_len (Str.ofString ", ") _ nm1
  have inC : codes (Str.join (Str.ofString ", ") ((List.range p.inputs).map nm)) = Vagrai.commas ((List.range p.inputs).map (Vagrai.named 120)) := by
    rw [codes_commas rfl, List.map_map]
    rfl
  generalize Str.join (Str.ofString ", ") ((List.range p.inputs).map nm) = sIn at inL inC
  have inL2 : sIn.length ≤ 2000 := by
    rw [List.length_map, List.length_range, show (Str.ofString ", ").length = 2 from rfl] at inL
    omega
  clear inL
  have s01 := s0.trans s1
  have hP1 := hP.same s01
  -- names = [line_name(i, line) for i, line in enumerate(program.lines)]
  refine ⟨_, rfl, pa, _, dp, _, _, rfl, hP1.obj, T.cl_Program, T.n_Program_lines, lk_lines _ _ _, pl, _, rfl, SqL.of hP1.lst, fun N hN => lc_enum (K := K) (a := pl) (xs := ps.map V.ref)
    (fun i H' => Same H1 H' ∧ H' N = some (.lst (((List.range i).map (nameS p.code)).map V.str))) ⟨same_upd hN, upd_same⟩ (fun i H' _ e => SqL.of (e.1 _ _ hP1.lst)) (fun i y H' t hi e nt => ?_) (fun H2 e => ?_)⟩
  · obtain ⟨s2, h2⟩ := e
    rw [List.getElem?_map] at hi
    cases hp : ps[i]? with
    | none => rw [hp] at hi; cases hi
    | some q =>
      rw [hp] at hi
      obtain rfl : V.ref q = y := Option.some.inj hi
      obtain ⟨l, hl, hq⟩ := hP1.lines.get' hp
      have il := (List.getElem?_eq_some_iff.mp hl).1
      have lm := List.mem_of_getElem? hl
      have st := same_upd (o := .tup [V.int (i : Nat), V.ref q]) nt
      have s3 := s2.trans st
      refine ⟨t, _, rfl, SqT.of upd_same, rfl, _, _, rfl, _, _, rfl, rfl, rfl, ?_⟩
      refine ⟨_, rfl, _, rfl, i, q, l, rfl, s3 _ _ hq, ⟨by omega, tx.small l lm, fun k hk => tx.inputs l k lm hk⟩, fun s es => ?_⟩
      obtain rfl : s = nameS p.code i := codes_inj (es.trans (nameOf_at hl).symm)
      refine ⟨_, st _ _ h2, by rw [List.length_map, List.length_map, List.length_range]; omega, fun b o z => (upd_ne (ne_of_none z hN)).trans (s3 _ _ z), ?_⟩
      rw [upd_same, namesV_snoc]
  obtain ⟨s2, h2⟩ := e
  rw [List.length_map, hP.lines.len] at h2
  have hNN : H2 N = some (.lst (namesV p.code)) := h2
  have s02 := s01.trans s2
  have hP2 := hP.same s02
  -- lets
  refine ⟨_, rfl, pa, _, dp, _, _, rfl, hP2.obj, T.cl_Program, T.n_Program_lines, lk_lines _ _ _, pl, _, rfl, SqL.of hP2.lst, fun R hR => lc_enum (K := K) (a := pl) (xs := ps.map V.ref)
    (fun i H' => ∃ ss : List Str, Same H2 H' ∧ H' R = some (.lst (ss.map V.str)) ∧ ss.flatMap codes ++ Vagrai.letsFrom p.code i (p.code.drop i) = Vagrai.letsFrom p.code 0 p.code ∧ ss.length ≤ i ∧ ∀ s ∈ ss, s.length ≤ 500) ⟨[], same_upd hR, upd_same, rfl, Nat.le_refl _, nofun⟩ (fun i H' _ ⟨_, e, _⟩ => SqL.of (e _ _ hP2.lst)) (fun i y H' t hi e nt => ?_) (fun H3 e => ?_)⟩
  · obtain ⟨ss, s3, h3, htx, hsl, hsm⟩ := e
    rw [List.getElem?_map] at hi
    cases hp : ps[i]? with
    | none => rw [hp] at hi; cases hi
    | some q =>
      rw [hp] at hi
      obtain rfl : V.ref q = y := Option.some.inj hi
      obtain ⟨l, hl, hq⟩ := hP2.lines.get' hp
      have il := (List.getElem?_eq_some_iff.mp hl).1
      have st := same_upd (o := .tup [V.int (i : Nat), V.ref q]) nt
      have s4 := s3.trans st
      have okl := ok.code i l hl
      have edr : p.code.drop i = l :: p.code.drop (i + 1) := by
        rw [List.drop_eq_getElem_cons il]
        congr 1
        have := List.getElem?_eq_getElem il
        rw [hl] at this
        exact (Option.some.inj this).symm
      rw [edr, lets_cons] at htx
      refine ⟨t, _, rfl, SqT.of upd_same, rfl, _, _, rfl, _, _, rfl, rfl, rfl, ?_⟩
      refine ⟨_, rfl, q, l, rfl, s4 _ _ hq, _, rfl, ?_⟩
      cases hop : l.isOp with
      | false =>
        refine ifF rfl ⟨ss, s4, st _ _ h3, ?_, by omega, hsm⟩
        have e : letOf p.code i l = [] := by unfold letOf; rw [no_text hop]
        rw [e] at htx
        exact htx
      | true =>
        refine ifT rfl ?_
        refine ⟨_, rfl, _, rfl, _, rfl, i, q, N, l, p.code, rfl, s4 _ _ hq, s4 _ _ hNN, hl, fun u hu => by have := okl.uses u hu; omega, tx, hop, fun H5 s s5 es ls => ?_⟩
        refine ⟨_, s5 _ _ (st _ _ h3), by rw [List.length_map]; omega, ss ++ [s], fun b o z => (upd_ne (ne_of_none z hR)).trans (s5 _ _ (s4 _ _ z)), by rw [upd_same, List.map_append]; rfl, ?_, by rw [List.length_append]; show ss.length + 1 ≤ i + 1; omega, fun x hx => ?_⟩
        · rw [← htx, List.flatMap_append, List.flatMap_cons, List.flatMap_nil, es]
          simp
        · rcases List.mem_append.mp hx with h | h
          · exact hsm x h
          · rw [List.mem_singleton.mp h]; exact ls
  obtain ⟨ss, s3, h3, htx, hsl, hsm⟩ := e
  rw [List.length_map, hP.lines.len] at htx hsl
  rw [List.drop_length] at htx
  have htx : ss.flatMap codes = Vagrai.letsFrom p.code 0 p.code := by
    rw [← htx]
    exact (List.append_nil _).symm
  have sumS := sum_le (l := ss.map (·.length)) (m := 500) fun x hx => by
    obtain ⟨s, hs, rfl⟩ := List.mem_map.mp hx
    exact hsm s hs
  have joS := join_len (Str.ofString "") ss hsm
  have l0 : (Str.ofString "").length = 0 := rfl
  rw [List.length_map] at sumS
  rw [l0] at joS
  have s03 := s02.trans s3
  have hP3 := hP.same s03
  have hN3 := s3 _ _ hNN
  -- outs
  have onL : ∀ s ∈ p.outs.map (nameS p.code), s.length ≤ 130 := fun s hs => by
    obtain ⟨o, ho, rfl⟩ := List.mem_map.mp hs
    exact nameS_len tx (ok.outs o ho)
  refine ⟨⟨_, rfl⟩, _, rfl, pa, _, dp, _, _, rfl, hP3.obj, T.cl_Program, T.n_Program_outs, lk_outs _ _ _, po, rfl, ⟨_, SqL.of hP3.outs⟩, fun M2 hM2 => lc_list (K := K) (a := po) (xs := p.outs.map natV)
    (fun i H' => Same H3 H' ∧ H' M2 = some (.lst (((p.outs.take i).map (nameS p.code)).map V.str))) ⟨same_upd hM2, upd_same⟩ (fun i H' _ e => SqL.of (e.1 _ _ hP3.outs)) (fun i y H' hi e => ?_) (fun H4 e => ?_)⟩
  · obtain ⟨s4, h4⟩ := e
    rw [List.getElem?_map] at hi
    cases ho : p.outs[i]? with
    | none => rw [ho] at hi; cases hi
    | some o =>
      rw [ho] at hi
      obtain rfl : natV o = y := Option.some.inj hi
      have hm := List.mem_of_getElem? ho
      have il := (List.getElem?_eq_some_iff.mp ho).1
      refine ⟨rfl, _, rfl, _, rfl, N, _, (o : Int), V.str (nameS p.code o), rfl, rfl, SqL.of (s4 _ _ hN3), atI_nat (namesV_at (ok.outs o hm)), ?_⟩
      refine ⟨_, h4, by simp; omega, fun b o z => (upd_ne (ne_of_none z hM2)).trans (s4 _ _ z), ?_⟩
      rw [upd_same, take_snoc ho, List.map_append, List.map_append]
      rfl
  obtain ⟨s4, h4⟩ := e
  rw [List.length_map, List.take_length] at h4
  refine ⟨_, M2, _, rfl, rfl, .inl (SqL.of h4), ?_, ?_⟩
  · have a := sum_le (l := (p.outs.map (nameS p.code)).map (·.length)) (m := 130) fun x hx => by
      obtain ⟨s, hs, rfl⟩ := List.mem_map.mp hx
      exact onL s hs
    rw [show (Str.ofString ", ").length = 2 from rfl]
    simp only [List.length_map] at a ⊢
    omega
  rw [TL.join_eq]
  have ouL := join_len (Str.ofString ", ") _ onL
  have ouC : codes (Str.join (Str.ofString ", ") (p.outs.map (nameS p.code))) = Vagrai.commas (p.outs.map (Vagrai.nameOf p.code)) := by
    rw [codes_commas rfl, List.map_map]
    rfl
  generalize Str.join (Str.ofString ", ") (p.outs.map (nameS p.code)) = sOu at ouL ouC
  have ouL : sOu.length ≤ 2000 := by
    rw [List.length_map, show (Str.ofString ", ").length = 2 from rfl] at ouL
    omega
  -- the text
  have k1 : (Str.ofString "fn g(").length = 5 := rfl
  have k2 : (Str.ofString ") = ").length = 4 := rfl
  have k3 : (Str.ofString "[").length = 1 := rfl
  have k4 : (Str.ofString "];").length = 2 := rfl
  have h34 := s4 _ _ h3
  refine ⟨_, rfl, _, _, rfl, rfl, by omega, ?_⟩
  refine ⟨_, _, rfl, rfl, by rw [slen]; omega, ?_⟩
  refine ⟨⟨_, rfl⟩, _, rfl, _, R, ss, rfl, rfl, .inl (SqL.of h34), by rw [l0]; omega, ?_⟩
  rw [TL.join_eq]
  have leC : codes (Str.join (Str.ofString "") ss) = Vagrai.letsFrom p.code 0 p.code := (codes_glue rfl ss).trans htx
  generalize Str.join (Str.ofString "") ss = sLe at leC joS
  have joS : sLe.length ≤ 10000000 := by omega
  refine ⟨_, _, rfl, rfl, by rw [slen, slen]; omega, ?_⟩
  refine ⟨_, _, rfl, rfl, by rw [slen, slen, slen]; omega, ?_⟩
  refine ⟨_, rfl, _, _, rfl, rfl, by rw [slen, slen, slen, slen]; omega, ?_⟩
  refine ⟨_, _, rfl, rfl, by rw [slen, slen, slen, slen, slen]; omega, ?_⟩
  refine k _ _ (s03.trans s4) ?_ (by rw [slen, slen, slen, slen, slen, slen]; omega)
  simp only [codes_append, inC, leC, ouC]
  unfold Vagrai.text
  show [102, 110, 32, 103, 40] ++ _ ++ [41, 32, 61, 32] ++ _ ++ [91] ++ _ ++ [93, 59] = [102, 110, 32, 103, 40] ++ (_ ++ (41 :: ([32, 61, 32] ++ (_ ++ (91 :: (_ ++ [93, 59]))))))
  simp
end Lc
set_option Elab.async false
set_option linter.all false
set_option maxRecDepth 100000
set_option maxHeartbeats 4000000
namespace Lc
open PySem PySem.Spec PyProof.Rows L2
open Vagraa (Frac frac)
open VagraLine (Line)
open Vagrai (Prog Work)
variable {P : Program} {w : World} {K : PySem.W.Frag} {mg : Str → Option Value} {base : Heap} {D : Ad}
/-- hands back a program, new or not -/
def GiveQ (D : Ad) (H : Hp) (Q : VK) (P : Prog) : Prop := ∀ (H' : Hp) (q : Addr), Same H H' → ProgAt D H' q P → Q (.ref q) H'
def trimIf (t : Int) (p : Prog) : Prog := if t = 1 then Vagrai.trimmed p else p
def spTrimIf (D : Ad) : Sp := fun vs H Q _ => ∃ (t : Int) (pa : Addr) (p : Prog), vs = [.int t, .ref pa] ∧ ProgAt D H pa p ∧ ProgOk p ∧ p.code.length ≤ 100000 ∧ p.outs.length ≤ 100000 ∧ GiveQ D H Q (trimIf t p)
theorem ok_trimmed_if (T : Txt K mg D) : FnOk P w K mg base CX0 6 D.a_trimmed_if D.d_trimmed_if P_trimmed_if (spTrimIf D) := by
  have G_trimmed := ok_trimmed (P := P) (w := w) (base := base) T
  refine T.F_trimmed_if.ok sc_trimmed_if (fun vs H Q E h => by first | (obtain ⟨rfl, _⟩ := h; rfl) | (obtain ⟨_, rfl, _⟩ := h; rfl) | (obtain ⟨_, _, rfl, _⟩ := h; rfl) | (obtain ⟨_, _, _, rfl, _⟩ := h; rfl) | (obtain ⟨_, _, _, _, rfl, _⟩ := h; rfl) | (obtain ⟨_, _, _, _, _, rfl, _⟩ := h; rfl) | (obtain ⟨_, _, _, _, _, _, rfl, _⟩ := h; rfl) | (obtain ⟨_, _, _, _, _, _, _, rfl, _⟩ := h; rfl) | (obtain ⟨_, _, _, _, _, _, _, _, rfl, _⟩ := h; rfl) | (obtain ⟨_, _, _, _, _, _, _, _, _, rfl, _⟩ := h; rfl) | (obtain ⟨_, _, _, _, _, _, _, _, _, _, rfl, _⟩ := h; rfl) | (obtain ⟨_, _, _, _, _, _, _, _, _, _, _, rfl, _⟩ := h; rfl) | (obtain ⟨_, _, _, _, _, _, _, _, _, _, _, _, rfl, _⟩ := h; rfl)) (fun cdv A outer s H vs Q E hr h => ?_)
  refine ⟨_, (pss_one (ps_ret (pe_ifExp (pt_cmpR op_eq (pv 0) pe_int (nomark _)) (pe_call G_trimmed (hr.mono (by decide)) rfl T.g_trimmed T.F_trimmed.kp (b_trimmed T) .nil pass0 (pa_cons (pv 1) pa_nil)) (pv 1)))), ?_⟩
  obtain ⟨t, pa, p, rfl, hp, ok, hz, hzo, k⟩ := h
  unfold trimIf at k
  refine ⟨_, rfl, rfl, _, rfl, ?_⟩
  by_cases c : t = 1
  · rw [if_pos c] at k
    subst c
    refine ifT rfl ?_
    exact ⟨_, rfl, pa, p, rfl, hp, ok, hz, hzo, fun H1 q s1 _ h1 => k H1 q s1 h1⟩
  · rw [if_neg c] at k
    refine ifF (decide_eq_false fun z => c (by injection z)) ?_
    exact ⟨_, rfl, k H pa (fun _ _ z => z) hp⟩
/-- the object that holds a program -/
def HeldAt (D : Ad) (H : Hp) (h : Addr) (p : Prog) : Prop := ∃ dx pa : Addr, H h = some (.ins D.c_Held dx [("program", .ref pa)]) ∧ ProgAt D H pa p
theorem HeldAt.same {D : Ad} {H H' : Hp} {h : Addr} {p : Prog} (e : Same H H') (x : HeldAt D H h p) : HeldAt D H' h p := by
  obtain ⟨dx, pa, h1, h2⟩ := x
  exact ⟨dx, pa, e _ _ h1, h2.same e⟩
theorem ProgAt.but {D : Ad} {H H' : Hp} {h pa : Addr} {p : Prog} {C dx : Addr} {fs : List (Str × V)} (hh : H h = some (.ins C dx fs)) (hc : fs.length ≠ 3) (k : But H H' h) (x : ProgAt D H pa p) : ProgAt D H' pa p := by
  obtain ⟨dp, pl, po, ps, X⟩ := x
  refine ⟨dp, pl, po, ps, k _ _ X.obj fun z => ?_, k _ _ X.lst (ne_of X.lst hh nofun), X.lines.keep fun q xs z => k _ _ z (ne_of z hh nofun), k _ _ X.outs (ne_of X.outs hh nofun)⟩
  rw [z] at X
  have o := X.obj
  rw [hh] at o
  injection o with y
  injection y with _ _ y
  exact hc (by rw [y]; rfl)
def spHeldInit (D : Ad) : Sp := fun vs H Q _ => ∃ x dx : Addr, vs = [.ref x] ∧ H x = some (.ins D.c_Held dx []) ∧ ∀ H' : Hp, But H H' x → HeldAt D H' x ⟨0, [], []⟩ → Q .non H'
theorem ok_Held_init (T : Txt K mg D) : FnOk P w K mg base CX0 3 D.a_Held_init D.d_Held_init P_Held_init (spHeldInit D) := by
  have G_Program_init := ok_Program_init (P := P) (w := w) (base := base) T
  refine T.F_Held_init.ok sc_Held_init (fun vs H Q E h => by first | (obtain ⟨rfl, _⟩ := h; rfl) | (obtain ⟨_, rfl, _⟩ := h; rfl) | (obtain ⟨_, _, rfl, _⟩ := h; rfl) | (obtain ⟨_, _, _, rfl, _⟩ := h; rfl) | (obtain ⟨_, _, _, _, rfl, _⟩ := h; rfl) | (obtain ⟨_, _, _, _, _, rfl, _⟩ := h; rfl) | (obtain ⟨_, _, _, _, _, _, rfl, _⟩ := h; rfl) | (obtain ⟨_, _, _, _, _, _, _, rfl, _⟩ := h; rfl) | (obtain ⟨_, _, _, _, _, _, _, _, rfl, _⟩ := h; rfl) | (obtain ⟨_, _, _, _, _, _, _, _, _, rfl, _⟩ := h; rfl) | (obtain ⟨_, _, _, _, _, _, _, _, _, _, rfl, _⟩ := h; rfl) | (obtain ⟨_, _, _, _, _, _, _, _, _, _, _, rfl, _⟩ := h; rfl) | (obtain ⟨_, _, _, _, _, _, _, _, _, _, _, _, rfl, _⟩ := h; rfl)) (fun cdv A outer s H vs Q E hr h => ?_)
  refine ⟨_, (pss_one (ps_fld (pv 0) (pe_make T.mk_Program G_Program_init (hr.mono (by decide)) rfl T.g_Program (b_Program_init T) .nil pass0 (pa_cons pe_int (pa_cons (pe_lst pa_nil) (pa_cons (pe_lst pa_nil) pa_nil)))) rfl)), ?_⟩
  obtain ⟨x, dx, rfl, hx, k⟩ := h
  refine ⟨(by show 0 ≤ sizeLine; decide), fun la hla => ⟨(by show 0 ≤ sizeLine; decide), fun oa hoa => ?_⟩⟩
  intro y dy ny ndy ne2
  refine ⟨y, dy, la, oa, 0, rfl, upd_same, rfl, ?_⟩
  rw [upd_upd]
  have s0 : Same H (upd (upd H la (.lst [])) oa (.lst [])) := (same_upd hla).trans (same_upd hoa)
  have s6 : Same (upd (upd H la (.lst [])) oa (.lst [])) (upd (upd (upd (upd H la (.lst [])) oa (.lst [])) dy (.own y)) y (.ins D.c_Program dy (progF 0 la oa))) := fun b o z => by
    rw [upd_ne (ne_of_none z ny), upd_ne (ne_of_none z ndy)]
    exact z
  have s7 := s0.trans s6
  generalize hH1 : upd (upd (upd (upd H la (.lst [])) oa (.lst [])) dy (.own y)) y (.ins D.c_Program dy (progF 0 la oa)) = H1 at s6 s7
  have lao : la ≠ oa := ne_of_none upd_same hoa
  have hP : ProgL D H1 y dy la oa [] ⟨0, [], []⟩ := ⟨by rw [← hH1, upd_same], s6 _ _ ((upd_ne lao).trans upd_same), Lines.nil _, s6 _ _ upd_same⟩
  refine ⟨_, rfl, x, _, dx, _, rfl, s7 _ _ hx, T.cl_Held, T.n_Held_program, (by show 0 < 1000; decide), ?_⟩
  have hxx := s7 _ _ hx
  refine k _ (fun b o z yx => by rw [upd_ne yx]; exact s7 _ _ z) ⟨dx, y, upd_same, dy, la, oa, [], ?_⟩
  have nyx : y ≠ x := ne_of hP.obj hxx (by intro z; injection z with _ _ z; cases z)
  exact ⟨(upd_ne nyx).trans hP.obj, (upd_ne (ne_of hP.lst hxx nofun)).trans hP.lst, Lines.nil _, (upd_ne (ne_of hP.outs hxx nofun)).trans hP.outs⟩
/-- what an answered call leaves: the held program, the answer's numbers in a new list; all else stands -/
def GiveA (D : Ad) (H : Hp) (Q : VK) (h : Addr) (p : Prog) (l : List Int) : Prop := ∀ (H' : Hp) (r : Addr), But H H' h → HeldAt D H' h p → H r = none → H' r = some (.lst (l.map V.int)) → Q (.ref r) H'
/-- what a held program is -/
structure Held (p : Prog) : Prop where
  ok : ProgOk p
  md : Modest p
def spTake (K : PySem.W.Frag) (D : Ad) : Sp := fun vs H Q E => ∃ (h p o : Addr) (n : Int) (ns os : List Int) (p0 : Prog), vs = [.ref h, .int n, .ref p, .ref o] ∧ HeldAt D H h p0 ∧ SqL K H p (ns.map V.int) ∧ SqL K H o (os.map V.int) ∧ ns.length ≤ 1000000 ∧ (∀ x ∈ ns, x.natAbs < 2 ^ 4000) ∧
  (∀ e, readP n ns os = .error e → RaiseN K D.c_Refusal H E e) ∧ (∀ q, readP n ns os = .ok q → GiveA D H Q h q [(q.code.length : Int)])
theorem ok_Held_take_code (T : Txt K mg D) : FnOk P w K mg base (L2.CX P w) 7 D.a_Held_take_code D.d_Held_take_code P_Held_take_code (spTake K D) := by
  have G_read_program := ok_read_program (P := P) (w := w) (base := base) T
  refine T.F_Held_take_code.okX sc_Held_take_code (fun vs H Q E h => by first | (obtain ⟨rfl, _⟩ := h; rfl) | (obtain ⟨_, rfl, _⟩ := h; rfl) | (obtain ⟨_, _, rfl, _⟩ := h; rfl) | (obtain ⟨_, _, _, rfl, _⟩ := h; rfl) | (obtain ⟨_, _, _, _, rfl, _⟩ := h; rfl) | (obtain ⟨_, _, _, _, _, rfl, _⟩ := h; rfl) | (obtain ⟨_, _, _, _, _, _, rfl, _⟩ := h; rfl) | (obtain ⟨_, _, _, _, _, _, _, rfl, _⟩ := h; rfl) | (obtain ⟨_, _, _, _, _, _, _, _, rfl, _⟩ := h; rfl) | (obtain ⟨_, _, _, _, _, _, _, _, _, rfl, _⟩ := h; rfl) | (obtain ⟨_, _, _, _, _, _, _, _, _, _, rfl, _⟩ := h; rfl) | (obtain ⟨_, _, _, _, _, _, _, _, _, _, _, rfl, _⟩ := h; rfl) | (obtain ⟨_, _, _, _, _, _, _, _, _, _, _, _, rfl, _⟩ := h; rfl)) (fun cdv A outer s H vs Q E hr h => ?_)
  refine ⟨_, (pss_cons (ps_fld (pv 0) (pe_call G_read_program (hr.mono (by decide)) rfl T.g_read_program T.F_read_program.kp (b_read_program T) .nil (passes_call (takes_of rfl rfl rfl rfl) (fun _ _ _ _ z => z)) (pa_cons (pv 1) (pa_cons (pv 2) (pa_cons (pv 3) pa_nil)))) rfl)
    (pss_one (ps_ret (pe_lst (pa_cons (pe_callB call_len_seq (by rfl) T.f_len PySem.boot_len (pa_cons (pe_fld (pe_fld (pv 0) rfl) rfl) pa_nil)) pa_nil))))), ?_⟩
  obtain ⟨h, p, o, n, ns, os, p0, rfl, ⟨dx, pa, hh, hpa⟩, hp, ho, hz, hb, kr, ks⟩ := h
  refine ⟨_, rfl, _, rfl, _, rfl, n, p, o, ns, os, rfl, hp, ho, hz, hb, kr, fun q hq H1 y s1 ny hy => ?_⟩
  have ka := ks q hq
  have h1 := s1 _ _ hh
  refine ⟨_, rfl, h, _, dx, _, rfl, h1, T.cl_Held, T.n_Held_program, (by show 1 < 1000; decide), ?_⟩
  generalize hH2 : upd H1 h (.ins D.c_Held dx (putF "program" (.ref y) [("program", .ref pa)])) = H2
  have b2 : But H1 H2 h := fun b o z yh => by rw [← hH2, upd_ne yh]; exact z
  have h2 : H2 h = some (.ins D.c_Held dx [("program", .ref y)]) := by rw [← hH2, upd_same]; rfl
  have hy2 := hy.but h1 (show (1 : Nat) ≠ 3 by decide) b2
  obtain ⟨dp, pl, po, ps, X⟩ := hy2
  refine ⟨_, rfl, h, _, dx, _, _, rfl, h2, T.cl_Held, T.n_Held_program, rfl, y, _, dp, _, _, rfl, X.obj, T.cl_Program, T.n_Program_lines, lk_lines _ _ _, pl, _, rfl, .inl (SqL.of X.lst), (by show 1 ≤ sizeLine; decide), fun r hr => ?_⟩
  have sr := same_upd (o := .lst [V.int (((ps.map V.ref).length : Nat) : Int)]) hr
  have hr0 : H r = none := by
    cases z : H r with
    | none => rfl
    | some u =>
      by_cases rh : r = h
      · rw [rh, h2] at hr; cases hr
      · rw [b2 _ _ (s1 _ _ z) rh] at hr; cases hr
  refine ka _ r (fun b o z yh => sr _ _ (b2 _ _ (s1 _ _ z) yh)) (HeldAt.same sr ⟨dx, y, h2, dp, pl, po, ps, X⟩) hr0 ?_
  rw [upd_same]
  simp [X.lines.len]
theorem told_give {D : Ad} {H H1 : Hp} {Q : VK} {h : Addr} {p : Prog} {l : List Int} (k : GiveA D H Q h p l) (hp : HeldAt D H h p) (s1 : Same H H1) : GiveL H1 Q (l.map V.int) := fun H' q s2 nq hq =>
  k H' q (fun b o z _ => s2 _ _ (s1 _ _ z)) (hp.same (s1.trans s2)) (s1.free nq) hq
theorem back_bounds {p : Prog} (h : Held p) : ProgOk (Vagrai.backward p) ∧ (Vagrai.backward p).code.length ≤ 20000 ∧ (Vagrai.backward p).outs.length ≤ 24 := by
  obtain ⟨a, b, c⟩ := backward_ok h.ok
  have m1 := h.md.inputs
  have m2 := h.md.code
  have m3 := h.md.outs
  have : p.inputs * (p.code.length + 1) ≤ 24 * 601 := Nat.mul_le_mul m1 (by omega)
  exact ⟨a, by omega, by omega⟩
theorem fwd_bounds {p : Prog} (h : Held p) : ProgOk (Vagrai.forward p) ∧ (Vagrai.forward p).code.length ≤ 20000 ∧ (Vagrai.forward p).outs.length ≤ 24 := by
  obtain ⟨a, b, c⟩ := forward_ok h.ok
  have m2 := h.md.code
  have m3 := h.md.outs
  exact ⟨a, by omega, by omega⟩
theorem trimIf_bounds {t : Int} {p : Prog} (h : ProgOk p) : ProgOk (trimIf t p) ∧ (trimIf t p).code.length ≤ p.code.length ∧ (trimIf t p).outs.length = p.outs.length ∧ (trimIf t p).inputs = p.inputs := by
  unfold trimIf
  split
  · exact ⟨trimmed_ok h, trimmed_len p, trimmed_outs p, rfl⟩
  · exact ⟨h, Nat.le_refl _, rfl, rfl⟩
def spTell (K : PySem.W.Frag) (D : Ad) (f : Prog → Prog) : Sp := fun vs H Q E => ∃ (h : Addr) (t : Int) (p : Prog), vs = [.ref h, .int t] ∧ HeldAt D H h p ∧ Held p ∧ (¬ (0 ≤ t ∧ t ≤ 1) → RaiseN K D.c_Refusal H E (-1)) ∧ (0 ≤ t ∧ t ≤ 1 → GiveA D H Q h p (Vagrai.progTold (trimIf t (f p))))
theorem ok_Held_tell_back (T : Txt K mg D) : FnOk P w K mg base (L2.CX P w) 7 D.a_Held_tell_back D.d_Held_tell_back P_Held_tell_back (spTell K D Vagrai.backward) := by
  have G_check_choice := ok_check_choice (P := P) (w := w) (base := base) T
  have G_told := ok_told (P := P) (w := w) (base := base) T
  have G_trimmed_if := ok_trimmed_if (P := P) (w := w) (base := base) T
  have G_backward := ok_backward (P := P) (w := w) (base := base) T
  refine T.F_Held_tell_back.okX sc_Held_tell_back (fun vs H Q E h => by first | (obtain ⟨rfl, _⟩ := h; rfl) | (obtain ⟨_, rfl, _⟩ := h; rfl) | (obtain ⟨_, _, rfl, _⟩ := h; rfl) | (obtain ⟨_, _, _, rfl, _⟩ := h; rfl) | (obtain ⟨_, _, _, _, rfl, _⟩ := h; rfl) | (obtain ⟨_, _, _, _, _, rfl, _⟩ := h; rfl) | (obtain ⟨_, _, _, _, _, _, rfl, _⟩ := h; rfl) | (obtain ⟨_, _, _, _, _, _, _, rfl, _⟩ := h; rfl) | (obtain ⟨_, _, _, _, _, _, _, _, rfl, _⟩ := h; rfl) | (obtain ⟨_, _, _, _, _, _, _, _, _, rfl, _⟩ := h; rfl) | (obtain ⟨_, _, _, _, _, _, _, _, _, _, rfl, _⟩ := h; rfl) | (obtain ⟨_, _, _, _, _, _, _, _, _, _, _, rfl, _⟩ := h; rfl) | (obtain ⟨_, _, _, _, _, _, _, _, _, _, _, _, rfl, _⟩ := h; rfl)) (fun cdv A outer s H vs Q E hr h => ?_)
  refine ⟨_, (pss_cons (ps_expr (pe_call G_check_choice (hr.mono (by decide)) rfl T.g_check_choice T.F_check_choice.kp (b_check_choice T) .nil (passes_call (takes_of rfl rfl rfl rfl) (fun _ _ _ _ z => z)) (pa_cons (pv 1) (pa_cons pe_int pa_nil))))
    (pss_one (ps_ret (pe_call G_told (hr.mono (by decide)) rfl T.g_told T.F_told.kp (b_told T) .nil pass0 (pa_cons (pe_call G_trimmed_if (hr.mono (by decide)) rfl T.g_trimmed_if T.F_trimmed_if.kp (b_trimmed_if T) .nil pass0 (pa_cons (pv 1) (pa_cons (pe_call G_backward (hr.mono (by decide)) rfl T.g_backward T.F_backward.kp (b_backward T) .nil pass0 (pa_cons (pe_fld (pv 0) rfl) pa_nil)) pa_nil))) pa_nil))))), ?_⟩
  obtain ⟨h, t, p, rfl, ⟨dx, pa, hh, hpa⟩, hp, kr, ks⟩ := h
  refine ⟨_, rfl, t, 1, rfl, kr, fun ht => ?_⟩
  have ka := ks ht
  obtain ⟨b1, b2, b3⟩ := back_bounds hp
  obtain ⟨c1, c2, c3, c4⟩ := trimIf_bounds (t := t) b1
  refine ⟨_, rfl, _, rfl, h, _, dx, _, _, rfl, hh, T.cl_Held, T.n_Held_program, rfl, ?_⟩
  refine ⟨pa, p, rfl, hpa, hp.ok, hp.md, fun H1 q1 s1 n1 h1 => ?_⟩
  refine ⟨t, q1, _, rfl, h1, b1, by omega, by omega, fun H2 q2 s2 h2 => ?_⟩
  exact ⟨q2, _, rfl, h2, by omega, told_give ka ⟨dx, pa, hh, hpa⟩ (s1.trans s2)⟩
theorem ok_Held_tell_ahead (T : Txt K mg D) : FnOk P w K mg base (L2.CX P w) 7 D.a_Held_tell_ahead D.d_Held_tell_ahead P_Held_tell_ahead (spTell K D Vagrai.forward) := by
  have G_check_choice := ok_check_choice (P := P) (w := w) (base := base) T
  have G_told := ok_told (P := P) (w := w) (base := base) T
  have G_trimmed_if := ok_trimmed_if (P := P) (w := w) (base := base) T
  have G_forward := ok_forward (P := P) (w := w) (base := base) T
  refine T.F_Held_tell_ahead.okX sc_Held_tell_ahead (fun vs H Q E h => by first | (obtain ⟨rfl, _⟩ := h; rfl) | (obtain ⟨_, rfl, _⟩ := h; rfl) | (obtain ⟨_, _, rfl, _⟩ := h; rfl) | (obtain ⟨_, _, _, rfl, _⟩ := h; rfl) | (obtain ⟨_, _, _, _, rfl, _⟩ := h; rfl) | (obtain ⟨_, _, _, _, _, rfl, _⟩ := h; rfl) | (obtain ⟨_, _, _, _, _, _, rfl, _⟩ := h; rfl) | (obtain ⟨_, _, _, _, _, _, _, rfl, _⟩ := h; rfl) | (obtain ⟨_, _, _, _, _, _, _, _, rfl, _⟩ := h; rfl) | (obtain ⟨_, _, _, _, _, _, _, _, _, rfl, _⟩ := h; rfl) | (obtain ⟨_, _, _, _, _, _, _, _, _, _, rfl, _⟩ := h; rfl) | (obtain ⟨_, _, _, _, _, _, _, _, _, _, _, rfl, _⟩ := h; rfl) | (obtain ⟨_, _, _, _, _, _, _, _, _, _, _, _, rfl, _⟩ := h; rfl)) (fun cdv A outer s H vs Q E hr h => ?_)
  refine ⟨_, (pss_cons (ps_expr (pe_call G_check_choice (hr.mono (by decide)) rfl T.g_check_choice T.F_check_choice.kp (b_check_choice T) .nil (passes_call (takes_of rfl rfl rfl rfl) (fun _ _ _ _ z => z)) (pa_cons (pv 1) (pa_cons pe_int pa_nil))))
    (pss_one (ps_ret (pe_call G_told (hr.mono (by decide)) rfl T.g_told T.F_told.kp (b_told T) .nil pass0 (pa_cons (pe_call G_trimmed_if (hr.mono (by decide)) rfl T.g_trimmed_if T.F_trimmed_if.kp (b_trimmed_if T) .nil pass0 (pa_cons (pv 1) (pa_cons (pe_call G_forward (hr.mono (by decide)) rfl T.g_forward T.F_forward.kp (b_forward T) .nil pass0 (pa_cons (pe_fld (pv 0) rfl) pa_nil)) pa_nil))) pa_nil))))), ?_⟩
  obtain ⟨h, t, p, rfl, ⟨dx, pa, hh, hpa⟩, hp, kr, ks⟩ := h
  refine ⟨_, rfl, t, 1, rfl, kr, fun ht => ?_⟩
  have ka := ks ht
  obtain ⟨b1, b2, b3⟩ := fwd_bounds hp
  obtain ⟨c1, c2, c3, c4⟩ := trimIf_bounds (t := t) b1
  refine ⟨_, rfl, _, rfl, h, _, dx, _, _, rfl, hh, T.cl_Held, T.n_Held_program, rfl, ?_⟩
  refine ⟨pa, p, rfl, hpa, hp.ok, hp.md, fun H1 q1 s1 n1 h1 => ?_⟩
  refine ⟨t, q1, _, rfl, h1, b1, by omega, by omega, fun H2 q2 s2 h2 => ?_⟩
  exact ⟨q2, _, rfl, h2, by omega, told_give ka ⟨dx, pa, hh, hpa⟩ (s1.trans s2)⟩
def adoptOf (w t : Int) (p : Prog) : Except Int Prog :=
  if 0 ≤ w ∧ w ≤ 1 then if 0 ≤ t ∧ t ≤ 1 then
    (if 24 < (trimIf t (if w = 0 then Vagrai.backward p else Vagrai.forward p)).inputs ∨ 600 < (trimIf t (if w = 0 then Vagrai.backward p else Vagrai.forward p)).code.length then .error (-7) else .ok (trimIf t (if w = 0 then Vagrai.backward p else Vagrai.forward p)))
    else .error (-1) else .error (-1)
def spAdopt (K : PySem.W.Frag) (D : Ad) : Sp := fun vs H Q E => ∃ (h : Addr) (w t : Int) (p : Prog), vs = [.ref h, .int w, .int t] ∧ HeldAt D H h p ∧ Held p ∧ (∀ e, adoptOf w t p = .error e → RaiseN K D.c_Refusal H E e) ∧
  (∀ q, adoptOf w t p = .ok q → GiveA D H Q h q [(q.inputs : Int), (q.code.length : Int), (q.outs.length : Int)])
theorem ok_Held_adopt_derivative (T : Txt K mg D) : FnOk P w K mg base (L2.CX P w) 7 D.a_Held_adopt_derivative D.d_Held_adopt_derivative P_Held_adopt_derivative (spAdopt K D) := by
  have G_check_choice := ok_check_choice (P := P) (w := w) (base := base) T
  have G_backward := ok_backward (P := P) (w := w) (base := base) T
  have G_forward := ok_forward (P := P) (w := w) (base := base) T
  have G_trimmed_if := ok_trimmed_if (P := P) (w := w) (base := base) T
  have G_TooLarge_init := ok_TooLarge_init (P := P) (w := w) (base := base) T
  obtain ⟨t_MOST_ADOPTED_LINES, v_MOST_ADOPTED_LINES⟩ := T.v_MOST_ADOPTED_LINES
  obtain ⟨t_MOST_ADOPTED_INPUTS, v_MOST_ADOPTED_INPUTS⟩ := T.v_MOST_ADOPTED_INPUTS
  refine T.F_Held_adopt_derivative.okX sc_Held_adopt_derivative (fun vs H Q E h => by first | (obtain ⟨rfl, _⟩ := h; rfl) | (obtain ⟨_, rfl, _⟩ := h; rfl) | (obtain ⟨_, _, rfl, _⟩ := h; rfl) | (obtain ⟨_, _, _, rfl, _⟩ := h; rfl) | (obtain ⟨_, _, _, _, rfl, _⟩ := h; rfl) | (obtain ⟨_, _, _, _, _, rfl, _⟩ := h; rfl) | (obtain ⟨_, _, _, _, _, _, rfl, _⟩ := h; rfl) | (obtain ⟨_, _, _, _, _, _, _, rfl, _⟩ := h; rfl) | (obtain ⟨_, _, _, _, _, _, _, _, rfl, _⟩ := h; rfl) | (obtain ⟨_, _, _, _, _, _, _, _, _, rfl, _⟩ := h; rfl) | (obtain ⟨_, _, _, _, _, _, _, _, _, _, rfl, _⟩ := h; rfl) | (obtain ⟨_, _, _, _, _, _, _, _, _, _, _, rfl, _⟩ := h; rfl) | (obtain ⟨_, _, _, _, _, _, _, _, _, _, _, _, rfl, _⟩ := h; rfl)) (fun cdv A outer s H vs Q E hr h => ?_)
  refine ⟨_, (pss_cons (ps_expr (pe_call G_check_choice (hr.mono (by decide)) rfl T.g_check_choice T.F_check_choice.kp (b_check_choice T) .nil (passes_call (takes_of rfl rfl rfl rfl) (fun _ _ _ _ z => z)) (pa_cons (pv 1) (pa_cons pe_int pa_nil))))
    (pss_cons (ps_expr (pe_call G_check_choice (hr.mono (by decide)) rfl T.g_check_choice T.F_check_choice.kp (b_check_choice T) .nil (passes_call (takes_of rfl rfl rfl rfl) (fun _ _ _ _ z => z)) (pa_cons (pv 2) (pa_cons pe_int pa_nil))))
    (pss_cons (ps_set (i := 3) sc_Held_adopt_derivative.nd rfl (.inl rfl) (pe_ifExp (pt_cmpR op_eq (pv 1) pe_int (nomark _)) (pe_call G_backward (hr.mono (by decide)) rfl T.g_backward T.F_backward.kp (b_backward T) .nil pass0 (pa_cons (pe_fld (pv 0) rfl) pa_nil)) (pe_call G_forward (hr.mono (by decide)) rfl T.g_forward T.F_forward.kp (b_forward T) .nil pass0 (pa_cons (pe_fld (pv 0) rfl) pa_nil))))
    (pss_cons (ps_set (i := 3) sc_Held_adopt_derivative.nd rfl (.inl rfl) (pe_call G_trimmed_if (hr.mono (by decide)) rfl T.g_trimmed_if T.F_trimmed_if.kp (b_trimmed_if T) .nil pass0 (pa_cons (pv 2) (pa_cons (pv 3) pa_nil))))
    (pss_cons (ps_if (PW.pt (pw_or (pt_cmpR op_gt (pe_fld (pv 3) rfl) (pe_glob (v := .int 24) rfl v_MOST_ADOPTED_INPUTS ⟨_, rfl⟩) (nomark _)) (pw_or1 (pt_cmpR op_gt (pe_callB call_len_seq (by rfl) T.f_len PySem.boot_len (pa_cons (pe_fld (pv 3) rfl) pa_nil)) (pe_glob (v := .int 600) rfl v_MOST_ADOPTED_LINES ⟨_, rfl⟩) (nomark _))))) (pss_one (ps_raiseR rfl T.x_TooLarge T.y_TooLarge G_TooLarge_init (hr.mono (by decide)) (b_TooLarge_init T) pass0 rfl T.g_TooLarge (takes_of rfl rfl rfl rfl))) pss_nil)
    (pss_cons (ps_fld (pv 0) (pv 3) rfl)
    (pss_one (ps_ret (pe_lst (pa_cons (pe_fld (pv 3) rfl) (pa_cons (pe_callB call_len_seq (by rfl) T.f_len PySem.boot_len (pa_cons (pe_fld (pv 3) rfl) pa_nil)) (pa_cons (pe_callB call_len_seq (by rfl) T.f_len PySem.boot_len (pa_cons (pe_fld (pv 3) rfl) pa_nil)) pa_nil)))))))))))), ?_⟩
  obtain ⟨h, w, t, p, rfl, ⟨dx, pa, hh, hpa⟩, hp, kr, ks⟩ := h
  unfold adoptOf at kr ks
  refine ⟨_, rfl, w, 1, rfl, fun hw => by rw [if_neg hw] at kr; exact kr _ rfl, fun hw => ?_⟩
  rw [if_pos hw] at kr ks
  refine ⟨_, rfl, t, 1, rfl, fun ht => by rw [if_neg ht] at kr; exact kr _ rfl, fun ht => ?_⟩
  rw [if_pos ht] at kr ks
  have fin : ∀ (q0 : Prog), q0 = (if w = 0 then Vagrai.backward p else Vagrai.forward p) → ProgOk q0 → q0.code.length ≤ 20000 → q0.outs.length ≤ 24 → True := fun _ _ _ _ _ => trivial
  obtain ⟨bb1, bb2, bb3⟩ := back_bounds hp
  obtain ⟨fb1, fb2, fb3⟩ := fwd_bounds hp
  refine ⟨_, rfl, rfl, _, rfl, ?_⟩
  by_cases cw : w = 0
  case' pos =>
    rw [if_pos cw] at kr ks
    subst cw
    refine ifT rfl ?_
    refine ⟨_, rfl, h, _, dx, _, _, rfl, hh, T.cl_Held, T.n_Held_program, rfl, pa, p, rfl, hpa, hp.ok, hp.md, fun H1 q1 s1 n1 h1 => ?_⟩
    have o1 := bb1
    have o2 := bb2
    have o3 := bb3
    generalize Vagrai.backward p = q0 at *
  case' neg =>
    rw [if_neg cw] at kr ks
    refine ifF (decide_eq_false fun z => cw (by injection z)) ?_
    refine ⟨_, rfl, h, _, dx, _, _, rfl, hh, T.cl_Held, T.n_Held_program, rfl, pa, p, rfl, hpa, hp.ok, hp.md, fun H1 q1 s1 n1 h1 => ?_⟩
    have o1 := fb1
    have o2 := fb2
    have o3 := fb3
    generalize Vagrai.forward p = q0 at *
  all_goals
    obtain ⟨c1, c2, c3, c4⟩ := trimIf_bounds (t := t) o1
    refine ⟨_, rfl, _, rfl, t, q1, _, rfl, h1, o1, by omega, by omega, fun H2 q2 s2 h2 => ?_⟩
    generalize trimIf t q0 = r0 at *
    have s12 := s1.trans s2
    obtain ⟨dp, pl, po, ps, X⟩ := h2
    have lc : (((ps.map V.ref).length : Nat) : Int) = (r0.code.length : Int) := by simp [X.lines.len]
    refine ⟨_, rfl, q2, _, dp, _, _, rfl, X.obj, T.cl_Program, T.n_Program_inputs, lk_inputs _ _ _, _, _, rfl, rfl, _, rfl, ?_⟩
    by_cases ci : 24 < r0.inputs
    · refine ifT (decide_eq_true (by omega)) ?_
      refine ifT rfl ?_
      rw [if_pos (.inl ci)] at kr
      exact fun d hd => ((kr _ rfl).later s12).now T.x_TooLarge d hd
    refine ifF (decide_eq_false (by omega)) ?_
    refine ⟨_, rfl, q2, _, dp, _, _, rfl, X.obj, T.cl_Program, T.n_Program_lines, lk_lines _ _ _, pl, _, rfl, .inl (SqL.of X.lst), _, _, rfl, rfl, _, rfl, ?_⟩
    by_cases cl : 600 < r0.code.length
    · refine ifT (decide_eq_true (by omega)) ?_
      rw [if_pos (.inr cl)] at kr
      exact fun d hd => ((kr _ rfl).later s12).now T.x_TooLarge d hd
    refine ifF (decide_eq_false (by omega)) ?_
    rw [if_neg (by omega)] at ks
    have ka := ks _ rfl
    have hh2 := s12 _ _ hh
    refine ⟨_, rfl, _, rfl, h, _, dx, _, rfl, hh2, T.cl_Held, T.n_Held_program, (by show 1 < 1000; decide), ?_⟩
    generalize hH3 : upd H2 h (.ins D.c_Held dx (putF "program" (.ref q2) [("program", .ref pa)])) = H3
    have b3 : But H2 H3 h := fun b o z yh => by rw [← hH3, upd_ne yh]; exact z
    have h3 : H3 h = some (.ins D.c_Held dx [("program", .ref q2)]) := by rw [← hH3, upd_same]; rfl
    have hq3 : ProgAt D H3 q2 r0 := ProgAt.but hh2 (show (1 : Nat) ≠ 3 by decide) b3 ⟨dp, pl, po, ps, X⟩
    obtain ⟨dp, pl, po, ps, X⟩ := hq3
    refine ⟨_, rfl, q2, _, dp, _, _, rfl, X.obj, T.cl_Program, T.n_Program_inputs, lk_inputs _ _ _, _, rfl, q2, _, dp, _, _, rfl, X.obj, T.cl_Program, T.n_Program_lines, lk_lines _ _ _, pl, _, rfl, .inl (SqL.of X.lst), _, rfl, q2, _, dp, _, _, rfl, X.obj, T.cl_Program, T.n_Program_outs, lk_outs _ _ _, po, _, rfl, .inl (SqL.of X.outs), (by show 3 ≤ sizeLine; decide), fun r hr => ?_⟩
    have sr := same_upd (o := .lst [V.int (r0.inputs : Int), V.int (((ps.map V.ref).length : Nat) : Int), V.int (((r0.outs.map natV).length : Nat) : Int)]) hr
    have hr0 : H r = none := by
      cases z : H r with
      | none => rfl
      | some u =>
        by_cases rh : r = h
        · rw [rh, h3] at hr; cases hr
        · rw [b3 _ _ (s12 _ _ z) rh] at hr; cases hr
    refine ka _ r (fun b o z yh => sr _ _ (b3 _ _ (s12 _ _ z) yh)) (HeldAt.same sr ⟨dx, q2, h3, dp, pl, po, ps, X⟩) hr0 ?_
    rw [upd_same]
    simp [X.lines.len]
theorem fracs_len {n : Nat} {l : List Int} {fs : List Frac} (h : Vagrai.fracs n l = .ok fs) : VagraLine.fracsOf l = some fs ∧ fs.length = n := by
  unfold Vagrai.fracs at h
  cases e : VagraLine.fracsOf l with
  | none => rw [e] at h; cases h
  | some gs =>
    rw [e] at h
    have h : (if gs.length = n then Except.ok gs else Except.error (-2)) = .ok fs := h
    split at h
    · rename_i hl
      cases h
      exact ⟨rfl, hl⟩
    · cases h
theorem fracs_low {n : Nat} {l : List Int} {fs : List Frac} (h : Vagrai.fracs n l = .ok fs) : ∀ a ∈ fs, Low a := fracsOf_low _ l fs (Nat.le_refl _) (fracs_len h).1
def runOf (p : Prog) (l : List Int) : Except Int (List Int) := match Vagrai.fracs p.inputs l with
  | .error e => .error e
  | .ok fs => .ok (ranL p fs)
def spRunHeld (K : PySem.W.Frag) (D : Ad) : Sp := fun vs H Q E => ∃ (h x : Addr) (l : List Int) (p : Prog), vs = [.ref h, .ref x] ∧ HeldAt D H h p ∧ Held p ∧ SqL K H x (l.map V.int) ∧ l.length ≤ 100000 ∧ (∀ y ∈ l, y.natAbs < 2 ^ 4000) ∧
  (∀ e, runOf p l = .error e → RaiseN K D.c_Refusal H E e) ∧ (∀ a, runOf p l = .ok a → GiveA D H Q h p a)
theorem ok_Held_run_held (T : Txt K mg D) : FnOk P w K mg base (L2.CX P w) 6 D.a_Held_run_held D.d_Held_run_held P_Held_run_held (spRunHeld K D) := by
  have G_run := ok_run (P := P) (w := w) (base := base) T
  have G_read_fractions := ok_read_fractions (P := P) (w := w) (base := base) T
  refine T.F_Held_run_held.okX sc_Held_run_held (fun vs H Q E h => by first | (obtain ⟨rfl, _⟩ := h; rfl) | (obtain ⟨_, rfl, _⟩ := h; rfl) | (obtain ⟨_, _, rfl, _⟩ := h; rfl) | (obtain ⟨_, _, _, rfl, _⟩ := h; rfl) | (obtain ⟨_, _, _, _, rfl, _⟩ := h; rfl) | (obtain ⟨_, _, _, _, _, rfl, _⟩ := h; rfl) | (obtain ⟨_, _, _, _, _, _, rfl, _⟩ := h; rfl) | (obtain ⟨_, _, _, _, _, _, _, rfl, _⟩ := h; rfl) | (obtain ⟨_, _, _, _, _, _, _, _, rfl, _⟩ := h; rfl) | (obtain ⟨_, _, _, _, _, _, _, _, _, rfl, _⟩ := h; rfl) | (obtain ⟨_, _, _, _, _, _, _, _, _, _, rfl, _⟩ := h; rfl) | (obtain ⟨_, _, _, _, _, _, _, _, _, _, _, rfl, _⟩ := h; rfl) | (obtain ⟨_, _, _, _, _, _, _, _, _, _, _, _, rfl, _⟩ := h; rfl)) (fun cdv A outer s H vs Q E hr h => ?_)
  refine ⟨_, (pss_one (ps_ret (pe_call G_run (hr.mono (by decide)) rfl T.g_run T.F_run.kp (b_run T) .nil pass0 (pa_cons (pe_fld (pv 0) rfl) (pa_cons (pe_call G_read_fractions (hr.mono (by decide)) rfl T.g_read_fractions T.F_read_fractions.kp (b_read_fractions T) .nil (passes_call (takes_of rfl rfl rfl rfl) (fun _ _ _ _ z => z)) (pa_cons (pv 1) (pa_cons (pe_fld (pe_fld (pv 0) rfl) rfl) pa_nil))) pa_nil))))), ?_⟩
  obtain ⟨h, x, l, p, rfl, ⟨dx, pa, hh, hpa⟩, hp, hx, hz, hb, kr, ks⟩ := h
  unfold runOf at kr ks
  have m1 := hp.md.inputs
  have m2 := hp.md.code
  have m3 := hp.md.outs
  obtain ⟨dp, pl, po, ps, X⟩ := hpa
  refine ⟨_, rfl, h, _, dx, _, _, rfl, hh, T.cl_Held, T.n_Held_program, rfl, ?_⟩
  refine ⟨_, rfl, _, rfl, h, _, dx, _, _, rfl, hh, T.cl_Held, T.n_Held_program, rfl, pa, _, dp, _, _, rfl, X.obj, T.cl_Program, T.n_Program_inputs, lk_inputs _ _ _, ?_⟩
  refine ⟨x, p.inputs, l, rfl, hx, by omega, hz, hb, fun e he => by rw [he] at kr; exact kr _ rfl, fun fs hf H1 q s1 nq hq => ?_⟩
  rw [hf] at ks
  have ka := ks _ rfl
  exact ⟨pa, q, p, fs, rfl, ⟨dp, pl, po, ps, X.same s1⟩, hp.ok, by omega, by omega, hq, (fracs_len hf).2, fracs_low hf, told_give ka ⟨dx, pa, hh, dp, pl, po, ps, X⟩ s1⟩
def gradOf (f : Prog → Prog) (n m : Nat) (p : Prog) (l r : List Int) : Except Int (List Int) := match Vagrai.fracs n l with
  | .error e => .error e
  | .ok fs => match Vagrai.fracs m r with
    | .error e => .error e
    | .ok gs => .ok (ranL (Vagrai.trimmed (f p)) (fs ++ gs))
theorem extend_fracs {H : Hp} {q : Addr} {ps qs : List Addr} {fs gs : List Frac} (hq : H q = some (.lst (ps.map V.ref))) (h1 : Fracs H ps fs) (h2 : Fracs H qs gs) : FracsAt (upd H q (.lst (ps.map V.ref ++ qs.map V.ref))) q (fs ++ gs) := by
  have B : ∀ (p : Addr) (xs : List V), H p = some (.tup xs) → upd H q (.lst (ps.map V.ref ++ qs.map V.ref)) p = some (.tup xs) := fun p xs z => by rw [upd_ne (ne_of z hq nofun)]; exact z
  exact ⟨ps ++ qs, by rw [upd_same]; simp, (h1.keep B).append (h2.keep B)⟩
def spGrad (K : PySem.W.Frag) (D : Ad) (f : Prog → Prog) (m : Prog → Nat) : Sp := fun vs H Q E => ∃ (h x w : Addr) (l r : List Int) (p : Prog), vs = [.ref h, .ref x, .ref w] ∧ HeldAt D H h p ∧ Held p ∧ SqL K H x (l.map V.int) ∧ l.length ≤ 50000 ∧ (∀ y ∈ l, y.natAbs < 2 ^ 4000) ∧ SqL K H w (r.map V.int) ∧ r.length ≤ 50000 ∧ (∀ y ∈ r, y.natAbs < 2 ^ 4000) ∧
  (∀ e, gradOf f p.inputs (m p) p l r = .error e → RaiseN K D.c_Refusal H E e) ∧ (∀ a, gradOf f p.inputs (m p) p l r = .ok a → GiveA D H Q h p a)
theorem ok_Held_run_gradient (T : Txt K mg D) : FnOk P w K mg base (L2.CX P w) 6 D.a_Held_run_gradient D.d_Held_run_gradient P_Held_run_gradient (spGrad K D Vagrai.backward (fun p => p.outs.length)) := by
  have G_read_fractions := ok_read_fractions (P := P) (w := w) (base := base) T
  have G_run := ok_run (P := P) (w := w) (base := base) T
  have G_trimmed := ok_trimmed (P := P) (w := w) (base := base) T
  have G_backward := ok_backward (P := P) (w := w) (base := base) T
  refine T.F_Held_run_gradient.okX sc_Held_run_gradient (fun vs H Q E h => by first | (obtain ⟨rfl, _⟩ := h; rfl) | (obtain ⟨_, rfl, _⟩ := h; rfl) | (obtain ⟨_, _, rfl, _⟩ := h; rfl) | (obtain ⟨_, _, _, rfl, _⟩ := h; rfl) | (obtain ⟨_, _, _, _, rfl, _⟩ := h; rfl) | (obtain ⟨_, _, _, _, _, rfl, _⟩ := h; rfl) | (obtain ⟨_, _, _, _, _, _, rfl, _⟩ := h; rfl) | (obtain ⟨_, _, _, _, _, _, _, rfl, _⟩ := h; rfl) | (obtain ⟨_, _, _, _, _, _, _, _, rfl, _⟩ := h; rfl) | (obtain ⟨_, _, _, _, _, _, _, _, _, rfl, _⟩ := h; rfl) | (obtain ⟨_, _, _, _, _, _, _, _, _, _, rfl, _⟩ := h; rfl) | (obtain ⟨_, _, _, _, _, _, _, _, _, _, _, rfl, _⟩ := h; rfl) | (obtain ⟨_, _, _, _, _, _, _, _, _, _, _, _, rfl, _⟩ := h; rfl)) (fun cdv A outer s H vs Q E hr h => ?_)
  refine ⟨_, (pss_cons (ps_set (i := 3) sc_Held_run_gradient.nd rfl (.inl rfl) (pe_call G_read_fractions (hr.mono (by decide)) rfl T.g_read_fractions T.F_read_fractions.kp (b_read_fractions T) .nil (passes_call (takes_of rfl rfl rfl rfl) (fun _ _ _ _ z => z)) (pa_cons (pv 1) (pa_cons (pe_fld (pe_fld (pv 0) rfl) rfl) pa_nil))))
    (pss_cons (ps_expr (pe_bm PySem.F.plainAttrs_list PySem.F.slot_list_extend PySem.F.type_list_extend mt_extend (pv 3) (pa_cons (pe_call G_read_fractions (hr.mono (by decide)) rfl T.g_read_fractions T.F_read_fractions.kp (b_read_fractions T) .nil (passes_call (takes_of rfl rfl rfl rfl) (fun _ _ _ _ z => z)) (pa_cons (pv 2) (pa_cons (pe_callB call_len_seq (by rfl) T.f_len PySem.boot_len (pa_cons (pe_fld (pe_fld (pv 0) rfl) rfl) pa_nil)) pa_nil))) pa_nil)))
    (pss_one (ps_ret (pe_call G_run (hr.mono (by decide)) rfl T.g_run T.F_run.kp (b_run T) .nil pass0 (pa_cons (pe_call G_trimmed (hr.mono (by decide)) rfl T.g_trimmed T.F_trimmed.kp (b_trimmed T) .nil pass0 (pa_cons (pe_call G_backward (hr.mono (by decide)) rfl T.g_backward T.F_backward.kp (b_backward T) .nil pass0 (pa_cons (pe_fld (pv 0) rfl) pa_nil)) pa_nil)) (pa_cons (pv 3) pa_nil))))))), ?_⟩
  obtain ⟨h, x, w, l, r, p, rfl, ⟨dx, pa, hh, hpa⟩, hp, hx, hz, hb, hw, hzw, hbw, kr, ks⟩ := h
  unfold gradOf at kr ks
  have m1 := hp.md.inputs
  have m2 := hp.md.code
  have m3 := hp.md.outs
  have zl : sizeLine = 16777216 := rfl
  obtain ⟨dp, pl, po, ps, X⟩ := hpa
  refine ⟨_, rfl, _, rfl, h, _, dx, _, _, rfl, hh, T.cl_Held, T.n_Held_program, rfl, pa, _, dp, _, _, rfl, X.obj, T.cl_Program, T.n_Program_inputs, lk_inputs _ _ _, ?_⟩
  refine ⟨x, p.inputs, l, rfl, hx, by omega, by omega, hb, fun e he => by rw [he] at kr; exact kr _ rfl, fun fs hf H1 q s1 nq hq => ?_⟩
  rw [hf] at kr ks
  obtain ⟨qs, q1, q2⟩ := hq
  have X1 := X.same s1
  have hh1 := s1 _ _ hh
  refine ⟨_, rfl, .inl ⟨rfl, _, SqL.of q1⟩, ?_⟩
  refine ⟨_, rfl, _, rfl, h, _, dx, _, _, rfl, hh1, T.cl_Held, T.n_Held_program, rfl, pa, _, dp, _, _, rfl, X1.obj, T.cl_Program, T.n_Program_outs, lk_outs _ _ _, po, _, rfl, .inl (SqL.of X1.outs), ?_⟩
  have eo : (((p.outs.map natV).length : Nat) : Int) = ((p.outs.length : Nat) : Int) := by simp
  rw [eo]
  refine ⟨w, p.outs.length, r, rfl, s1.seq hw, by omega, by omega, hbw, fun e he => ?_, fun gs hg H2 y s2 ny hy => ?_⟩
  · have kr : ∀ e, (match Vagrai.fracs p.outs.length r with
      | .error e => .error e
      | .ok gs => .ok (ranL (Vagrai.trimmed (Vagrai.backward p)) (fs ++ gs)) : Except Int (List Int)) = .error e → RaiseN K D.c_Refusal H E e := kr
    rw [he] at kr
    exact (kr _ rfl).later s1
  have ks : ∀ a, (match Vagrai.fracs p.outs.length r with
      | .error e => .error e
      | .ok gs => .ok (ranL (Vagrai.trimmed (Vagrai.backward p)) (fs ++ gs)) : Except Int (List Int)) = .ok a → GiveA D H Q h p a := ks
  rw [hg] at ks
  have ka := ks _ rfl
  obtain ⟨ys, y1, y2⟩ := hy
  have q1' := s2 _ _ q1
  have lf := (fracs_len hf).2
  have lg := (fracs_len hg).2
  refine ⟨q, y, _, _, rfl, rfl, q1', y1, by simp [q2.len, y2.len]; omega, ?_⟩
  have FA := extend_fracs q1' (q2.keep fun p xs z => s2 _ _ z) y2
  have s3 : Same H (upd H2 q (.lst (qs.map V.ref ++ ys.map V.ref))) := fun b o z => by rw [upd_ne (ne_of_none z nq)]; exact s2 _ _ (s1 _ _ z)
  generalize upd H2 q (.lst (qs.map V.ref ++ ys.map V.ref)) = H3 at FA s3
  obtain ⟨b1, b2, b3⟩ := back_bounds hp
  have hh3 := s3 _ _ hh
  refine ⟨_, rfl, h, _, dx, _, _, rfl, hh3, T.cl_Held, T.n_Held_program, rfl, ?_⟩
  refine ⟨pa, p, rfl, ⟨dp, pl, po, ps, X.same s3⟩, hp.ok, hp.md, fun H4 z1 s4 n4 h4 => ?_⟩
  refine ⟨z1, _, rfl, h4, b1, by omega, by omega, fun H5 z2 s5 n5 h5 => ?_⟩
  have tl := trimmed_len (Vagrai.backward p)
  have to := trimmed_outs (Vagrai.backward p)
  have lo : ∀ a ∈ fs ++ gs, Low a := fun a ha => by
    rcases List.mem_append.mp ha with ha | ha
    · exact fracs_low hf a ha
    · exact fracs_low hg a ha
  exact ⟨_, rfl, z2, q, _, fs ++ gs, rfl, h5, trimmed_ok b1, by omega, by omega, FA.same (s4.trans s5), by rw [List.length_append, lf, lg]; rfl, lo, told_give ka ⟨dx, pa, hh, dp, pl, po, ps, X⟩ (s3.trans (s4.trans s5))⟩
end Lc
set_option Elab.async false
set_option linter.all false
set_option maxRecDepth 100000
set_option maxHeartbeats 4000000
namespace Lc
open PySem PySem.Spec PyProof.Rows L2
open Vagraa (Frac frac)
open VagraLine (Line)
open Vagrai (Prog Work)
variable {P : Program} {w : World} {K : PySem.W.Frag} {mg : Str → Option Value} {base : Heap} {D : Ad}
theorem ok_Held_run_change (T : Txt K mg D) : FnOk P w K mg base (L2.CX P w) 7 D.a_Held_run_change D.d_Held_run_change P_Held_run_change (spGrad K D Vagrai.forward (fun p => p.inputs)) := by
  have G_read_fractions := ok_read_fractions (P := P) (w := w) (base := base) T
  have G_run := ok_run (P := P) (w := w) (base := base) T
  have G_trimmed := ok_trimmed (P := P) (w := w) (base := base) T
  have G_forward := ok_forward (P := P) (w := w) (base := base) T
  refine T.F_Held_run_change.okX sc_Held_run_change (fun vs H Q E h => by first | (obtain ⟨rfl, _⟩ := h; rfl) | (obtain ⟨_, rfl, _⟩ := h; rfl) | (obtain ⟨_, _, rfl, _⟩ := h; rfl) | (obtain ⟨_, _, _, rfl, _⟩ := h; rfl) | (obtain ⟨_, _, _, _, rfl, _⟩ := h; rfl) | (obtain ⟨_, _, _, _, _, rfl, _⟩ := h; rfl) | (obtain ⟨_, _, _, _, _, _, rfl, _⟩ := h; rfl) | (obtain ⟨_, _, _, _, _, _, _, rfl, _⟩ := h; rfl) | (obtain ⟨_, _, _, _, _, _, _, _, rfl, _⟩ := h; rfl) | (obtain ⟨_, _, _, _, _, _, _, _, _, rfl, _⟩ := h; rfl) | (obtain ⟨_, _, _, _, _, _, _, _, _, _, rfl, _⟩ := h; rfl) | (obtain ⟨_, _, _, _, _, _, _, _, _, _, _, rfl, _⟩ := h; rfl) | (obtain ⟨_, _, _, _, _, _, _, _, _, _, _, _, rfl, _⟩ := h; rfl)) (fun cdv A outer s H vs Q E hr h => ?_)
  refine ⟨_, (pss_cons (ps_set (i := 3) sc_Held_run_change.nd rfl (.inl rfl) (pe_call G_read_fractions (hr.mono (by decide)) rfl T.g_read_fractions T.F_read_fractions.kp (b_read_fractions T) .nil (passes_call (takes_of rfl rfl rfl rfl) (fun _ _ _ _ z => z)) (pa_cons (pv 1) (pa_cons (pe_fld (pe_fld (pv 0) rfl) rfl) pa_nil))))
    (pss_cons (ps_expr (pe_bm PySem.F.plainAttrs_list PySem.F.slot_list_extend PySem.F.type_list_extend mt_extend (pv 3) (pa_cons (pe_call G_read_fractions (hr.mono (by decide)) rfl T.g_read_fractions T.F_read_fractions.kp (b_read_fractions T) .nil (passes_call (takes_of rfl rfl rfl rfl) (fun _ _ _ _ z => z)) (pa_cons (pv 2) (pa_cons (pe_fld (pe_fld (pv 0) rfl) rfl) pa_nil))) pa_nil)))
    (pss_one (ps_ret (pe_call G_run (hr.mono (by decide)) rfl T.g_run T.F_run.kp (b_run T) .nil pass0 (pa_cons (pe_call G_trimmed (hr.mono (by decide)) rfl T.g_trimmed T.F_trimmed.kp (b_trimmed T) .nil pass0 (pa_cons (pe_call G_forward (hr.mono (by decide)) rfl T.g_forward T.F_forward.kp (b_forward T) .nil pass0 (pa_cons (pe_fld (pv 0) rfl) pa_nil)) pa_nil)) (pa_cons (pv 3) pa_nil))))))), ?_⟩
  obtain ⟨h, x, w, l, r, p, rfl, ⟨dx, pa, hh, hpa⟩, hp, hx, hz, hb, hw, hzw, hbw, kr, ks⟩ := h
  unfold gradOf at kr ks
  have m1 := hp.md.inputs
  have m2 := hp.md.code
  have m3 := hp.md.outs
  have zl : sizeLine = 16777216 := rfl
  obtain ⟨dp, pl, po, ps, X⟩ := hpa
  refine ⟨_, rfl, _, rfl, h, _, dx, _, _, rfl, hh, T.cl_Held, T.n_Held_program, rfl, pa, _, dp, _, _, rfl, X.obj, T.cl_Program, T.n_Program_inputs, lk_inputs _ _ _, ?_⟩
  refine ⟨x, p.inputs, l, rfl, hx, by omega, by omega, hb, fun e he => by rw [he] at kr; exact kr _ rfl, fun fs hf H1 q s1 nq hq => ?_⟩
  rw [hf] at kr ks
  obtain ⟨qs, q1, q2⟩ := hq
  have X1 := X.same s1
  have hh1 := s1 _ _ hh
  refine ⟨_, rfl, .inl ⟨rfl, _, SqL.of q1⟩, ?_⟩
  refine ⟨_, rfl, _, rfl, h, _, dx, _, _, rfl, hh1, T.cl_Held, T.n_Held_program, rfl, pa, _, dp, _, _, rfl, X1.obj, T.cl_Program, T.n_Program_inputs, lk_inputs _ _ _, ?_⟩
  refine ⟨w, p.inputs, r, rfl, s1.seq hw, by omega, by omega, hbw, fun e he => ?_, fun gs hg H2 y s2 ny hy => ?_⟩
  · have kr : ∀ e, (match Vagrai.fracs p.inputs r with
      | .error e => .error e
      | .ok gs => .ok (ranL (Vagrai.trimmed (Vagrai.forward p)) (fs ++ gs)) : Except Int (List Int)) = .error e → RaiseN K D.c_Refusal H E e := kr
    rw [he] at kr
    exact (kr _ rfl).later s1
  have ks : ∀ a, (match Vagrai.fracs p.inputs r with
      | .error e => .error e
      | .ok gs => .ok (ranL (Vagrai.trimmed (Vagrai.forward p)) (fs ++ gs)) : Except Int (List Int)) = .ok a → GiveA D H Q h p a := ks
  rw [hg] at ks
  have ka := ks _ rfl
  obtain ⟨ys, y1, y2⟩ := hy
  have q1' := s2 _ _ q1
  have lf := (fracs_len hf).2
  have lg := (fracs_len hg).2
  refine ⟨q, y, _, _, rfl, rfl, q1', y1, by simp [q2.len, y2.len]; omega, ?_⟩
  have FA := extend_fracs q1' (q2.keep fun p xs z => s2 _ _ z) y2
  have s3 : Same H (upd H2 q (.lst (qs.map V.ref ++ ys.map V.ref))) := fun b o z => by rw [upd_ne (ne_of_none z nq)]; exact s2 _ _ (s1 _ _ z)
  generalize upd H2 q (.lst (qs.map V.ref ++ ys.map V.ref)) = H3 at FA s3
  obtain ⟨b1, b2, b3⟩ := fwd_bounds hp
  have hh3 := s3 _ _ hh
  refine ⟨_, rfl, h, _, dx, _, _, rfl, hh3, T.cl_Held, T.n_Held_program, rfl, ?_⟩
  refine ⟨pa, p, rfl, ⟨dp, pl, po, ps, X.same s3⟩, hp.ok, hp.md, fun H4 z1 s4 n4 h4 => ?_⟩
  refine ⟨z1, _, rfl, h4, b1, by omega, by omega, fun H5 z2 s5 n5 h5 => ?_⟩
  have tl := trimmed_len (Vagrai.forward p)
  have to := trimmed_outs (Vagrai.forward p)
  have lo : ∀ a ∈ fs ++ gs, Low a := fun a ha => by
    rcases List.mem_append.mp ha with ha | ha
    · exact fracs_low hf a ha
    · exact fracs_low hg a ha
  exact ⟨_, rfl, z2, q, _, fs ++ gs, rfl, h5, trimmed_ok b1, by omega, by omega, FA.same (s4.trans s5), by rw [List.length_append, lf, lg]; show p.inputs + p.inputs = 2 * p.inputs; omega, lo, told_give ka ⟨dx, pa, hh, dp, pl, po, ps, X⟩ (s3.trans (s4.trans s5))⟩
def spOps (D : Ad) : Sp := fun vs H Q _ => ∃ (h : Addr) (p : Prog), vs = [.ref h] ∧ HeldAt D H h p ∧ Held p ∧ GiveA D H Q h p [Vagrai.opsOf p, Vagrai.opsOf (Vagrai.backward p), Vagrai.opsOf (Vagrai.trimmed (Vagrai.backward p)), Vagrai.opsOf (Vagrai.forward p), Vagrai.opsOf (Vagrai.trimmed (Vagrai.forward p))]
/-- programs one behind the other -/
def ProgsAt (D : Ad) (H : Hp) (as : List Addr) (qs : List Prog) : Prop := as.length = qs.length ∧ ∀ (i : Nat) (a : Addr) (q : Prog), as[i]? = some a → qs[i]? = some q → ProgAt D H a q ∧ q.code.length ≤ 100000
theorem ProgsAt.nil {D : Ad} {H : Hp} : ProgsAt D H [] [] := ⟨rfl, fun i a q e => by simp at e⟩
theorem ProgsAt.cons {D : Ad} {H : Hp} {as : List Addr} {qs : List Prog} {a : Addr} {q : Prog} (h : ProgAt D H a q) (hl : q.code.length ≤ 100000) (r : ProgsAt D H as qs) : ProgsAt D H (a :: as) (q :: qs) := by
  refine ⟨by rw [List.length_cons, List.length_cons, r.1], fun i b c e1 e2 => ?_⟩
  cases i with
  | zero => cases e1; cases e2; exact ⟨h, hl⟩
  | succ i => exact r.2 i b c e1 e2
theorem ok_Held_tell_ops (T : Txt K mg D) : FnOk P w K mg base CX0 7 D.a_Held_tell_ops D.d_Held_tell_ops P_Held_tell_ops (spOps D) := by
  have G_backward := ok_backward (P := P) (w := w) (base := base) T
  have G_forward := ok_forward (P := P) (w := w) (base := base) T
  have G_trimmed := ok_trimmed (P := P) (w := w) (base := base) T
  have G_operations := ok_operations (P := P) (w := w) (base := base) T
  refine T.F_Held_tell_ops.ok sc_Held_tell_ops (fun vs H Q E h => by first | (obtain ⟨rfl, _⟩ := h; rfl) | (obtain ⟨_, rfl, _⟩ := h; rfl) | (obtain ⟨_, _, rfl, _⟩ := h; rfl) | (obtain ⟨_, _, _, rfl, _⟩ := h; rfl) | (obtain ⟨_, _, _, _, rfl, _⟩ := h; rfl) | (obtain ⟨_, _, _, _, _, rfl, _⟩ := h; rfl) | (obtain ⟨_, _, _, _, _, _, rfl, _⟩ := h; rfl) | (obtain ⟨_, _, _, _, _, _, _, rfl, _⟩ := h; rfl) | (obtain ⟨_, _, _, _, _, _, _, _, rfl, _⟩ := h; rfl) | (obtain ⟨_, _, _, _, _, _, _, _, _, rfl, _⟩ := h; rfl) | (obtain ⟨_, _, _, _, _, _, _, _, _, _, rfl, _⟩ := h; rfl) | (obtain ⟨_, _, _, _, _, _, _, _, _, _, _, rfl, _⟩ := h; rfl) | (obtain ⟨_, _, _, _, _, _, _, _, _, _, _, _, rfl, _⟩ := h; rfl)) (fun cdv A outer s H vs Q E hr h => ?_)
  refine ⟨_, (pss_cons (ps_set (i := 1) sc_Held_tell_ops.nd rfl (.inl rfl) (pe_call G_backward (hr.mono (by decide)) rfl T.g_backward T.F_backward.kp (b_backward T) .nil pass0 (pa_cons (pe_fld (pv 0) rfl) pa_nil)))
    (pss_cons (ps_set (i := 2) sc_Held_tell_ops.nd rfl (.inl rfl) (pe_call G_forward (hr.mono (by decide)) rfl T.g_forward T.F_forward.kp (b_forward T) .nil pass0 (pa_cons (pe_fld (pv 0) rfl) pa_nil)))
    (pss_one (ps_ret (pe_lc (own := [("made", 3)]) (g := gName 3) (tt := tYes) rfl sc_Held_tell_ops.nd (pi_tup (pe_tup (pa_cons (pe_fld (pv 0) rfl) (pa_cons (pv 1) (pa_cons (pe_call G_trimmed (hr.mono (by decide)) rfl T.g_trimmed T.F_trimmed.kp (b_trimmed T) .nil pass0 (pa_cons (pv 1) pa_nil)) (pa_cons (pv 2) (pa_cons (pe_call G_trimmed (hr.mono (by decide)) rfl T.g_trimmed T.F_trimmed.kp (b_trimmed T) .nil pass0 (pa_cons (pv 2) pa_nil)) pa_nil))))))) (blkOk_by (own := [("made", 3)]) (N := N_Held_tell_ops) (sc := defScope s_Held_tell_ops) (by decide +kernel)) (fun _ _ _ _ _ => pg_name (i := 3) sc_Held_tell_ops.nd rfl (Or.inl rfl)) (fun _ _ _ _ _ => pts_nil) (fun _ _ _ _ _ => (pe_call G_operations (hr.mono (by decide)) rfl T.g_operations T.F_operations.kp (b_operations T) .nil pass0 (pa_cons (pv 3) pa_nil)))))))), ?_⟩
  obtain ⟨h, p, rfl, ⟨dx, pa, hh, hpa⟩, hp, k⟩ := h
  have zl : sizeLine = 16777216 := rfl
  have m2 := hp.md.code
  obtain ⟨b1, b2, b3⟩ := back_bounds hp
  obtain ⟨f1, f2, f3⟩ := fwd_bounds hp
  have tlb := trimmed_len (Vagrai.backward p)
  have tlf := trimmed_len (Vagrai.forward p)
  refine ⟨_, rfl, h, _, dx, _, _, rfl, hh, T.cl_Held, T.n_Held_program, rfl, ?_⟩
  refine ⟨pa, p, rfl, hpa, hp.ok, hp.md, fun H1 q1 s1 n1 h1 => ?_⟩
  refine ⟨_, rfl, h, _, dx, _, _, rfl, s1 _ _ hh, T.cl_Held, T.n_Held_program, rfl, ?_⟩
  refine ⟨pa, p, rfl, hpa.same s1, hp.ok, hp.md, fun H2 q2 s2 n2 h2 => ?_⟩
  have s12 := s1.trans s2
  refine ⟨_, rfl, h, _, dx, _, _, rfl, s12 _ _ hh, T.cl_Held, T.n_Held_program, rfl, _, rfl, _, rfl, ?_⟩
  refine ⟨q1, _, rfl, h1.same s2, b1, by omega, by omega, fun H3 q3 s3 n3 h3 => ?_⟩
  refine ⟨_, rfl, _, rfl, ?_⟩
  refine ⟨q2, _, rfl, h2.same s3, f1, by omega, by omega, fun H4 q4 s4 n4 h4 => ?_⟩
  refine ⟨(by show 5 ≤ sizeLine; omega), fun L hL => ?_⟩
  have sL := same_upd (o := .tup [V.ref pa, V.ref q1, V.ref q3, V.ref q2, V.ref q4]) hL
  have hLL : upd H4 L (.tup [V.ref pa, V.ref q1, V.ref q3, V.ref q2, V.ref q4]) L = some (.tup [V.ref pa, V.ref q1, V.ref q3, V.ref q2, V.ref q4]) := upd_same
  generalize upd H4 L (.tup [V.ref pa, V.ref q1, V.ref q3, V.ref q2, V.ref q4]) = H5 at sL hLL
  have PS : ProgsAt D H5 [pa, q1, q3, q2, q4] [p, Vagrai.backward p, Vagrai.trimmed (Vagrai.backward p), Vagrai.forward p, Vagrai.trimmed (Vagrai.forward p)] :=
    .cons (hpa.same (s12.trans (s3.trans (s4.trans sL)))) (by omega) (.cons (h1.same (s2.trans (s3.trans (s4.trans sL)))) (by omega) (.cons (h3.same (s4.trans sL)) (by omega) (.cons (h2.same (s3.trans (s4.trans sL))) (by omega) (.cons (h4.same sL) (by omega) .nil))))
  have s05 := s12.trans (s3.trans (s4.trans sL))
  generalize hqs : [p, Vagrai.backward p, Vagrai.trimmed (Vagrai.backward p), Vagrai.forward p, Vagrai.trimmed (Vagrai.forward p)] = qs at PS
  have k : GiveA D H Q h p (qs.map Vagrai.opsOf) := by rw [← hqs]; exact k
  have lq : qs.length = 5 := by rw [← hqs]; rfl
  refine ⟨L, rfl, ⟨_, SqT.of hLL⟩, fun M hM => lc_tup (K := K) (a := L) (xs := [pa, q1, q3, q2, q4].map V.ref)
    (fun i H' => Same H5 H' ∧ H' M = some (.lst (((qs.take i).map Vagrai.opsOf).map V.int))) ⟨same_upd hM, upd_same⟩ (fun i H' _ e => SqT.of (e.1 _ _ hLL)) (fun i y H' hi e => ?_) (fun H' e => ?_)⟩
  · obtain ⟨s6, h6⟩ := e
    rw [List.getElem?_map] at hi
    cases ha : [pa, q1, q3, q2, q4][i]? with
    | none => rw [ha] at hi; cases hi
    | some a =>
      rw [ha] at hi
      obtain rfl : V.ref a = y := Option.some.inj hi
      have il : i < 5 := (List.getElem?_eq_some_iff.mp ha).1
      have hq := List.getElem?_eq_getElem (l := qs) (i := i) (by omega)
      obtain ⟨z1, z2⟩ := PS.2 i a _ ha hq
      refine ⟨rfl, _, rfl, a, _, rfl, z1.same s6, z2, fun H7 s7 => ?_⟩
      refine ⟨_, s7 _ _ h6, by simp; omega, fun b o z => (upd_ne (ne_of_none z hM)).trans (s7 _ _ (s6 _ _ z)), ?_⟩
      rw [upd_same, List.take_add_one, hq, List.map_append, List.map_append]
      rfl
  · obtain ⟨s6, h6⟩ := e
    rw [show ([pa, q1, q3, q2, q4].map V.ref).length = qs.length from lq.symm, List.take_length] at h6
    exact told_give k ⟨dx, pa, hh, hpa⟩ s05 _ M s6 hM h6
theorem needed_ones_is (p : Prog) : (neededIx p).map natV = (neededOnes p).map V.int := by
  show _ = ((neededIx p).map Int.ofNat).map V.int
  rw [List.map_map]
  rfl
def spNeededTold (D : Ad) : Sp := fun vs H Q _ => ∃ (h : Addr) (p : Prog), vs = [.ref h] ∧ HeldAt D H h p ∧ Held p ∧ GiveA D H Q h p (((neededOnes p).length : Int) :: neededOnes p)
theorem ok_Held_tell_needed (T : Txt K mg D) : FnOk P w K mg base CX0 5 D.a_Held_tell_needed D.d_Held_tell_needed P_Held_tell_needed (spNeededTold D) := by
  have G_needed_lines := ok_needed_lines (P := P) (w := w) (base := base) T
  refine T.F_Held_tell_needed.ok sc_Held_tell_needed (fun vs H Q E h => by first | (obtain ⟨rfl, _⟩ := h; rfl) | (obtain ⟨_, rfl, _⟩ := h; rfl) | (obtain ⟨_, _, rfl, _⟩ := h; rfl) | (obtain ⟨_, _, _, rfl, _⟩ := h; rfl) | (obtain ⟨_, _, _, _, rfl, _⟩ := h; rfl) | (obtain ⟨_, _, _, _, _, rfl, _⟩ := h; rfl) | (obtain ⟨_, _, _, _, _, _, rfl, _⟩ := h; rfl) | (obtain ⟨_, _, _, _, _, _, _, rfl, _⟩ := h; rfl) | (obtain ⟨_, _, _, _, _, _, _, _, rfl, _⟩ := h; rfl) | (obtain ⟨_, _, _, _, _, _, _, _, _, rfl, _⟩ := h; rfl) | (obtain ⟨_, _, _, _, _, _, _, _, _, _, rfl, _⟩ := h; rfl) | (obtain ⟨_, _, _, _, _, _, _, _, _, _, _, rfl, _⟩ := h; rfl) | (obtain ⟨_, _, _, _, _, _, _, _, _, _, _, _, rfl, _⟩ := h; rfl)) (fun cdv A outer s H vs Q E hr h => ?_)
  refine ⟨_, (pss_cons (ps_set (i := 1) sc_Held_tell_needed.nd rfl (.inl rfl) (pe_call G_needed_lines (hr.mono (by decide)) rfl T.g_needed_lines T.F_needed_lines.kp (b_needed_lines T) .nil pass0 (pa_cons (pe_fld (pv 0) rfl) pa_nil)))
    (pss_one (ps_ret (pe_op op_cat (pe_lst (pa_cons (pe_callB call_len_seq (by rfl) T.f_len PySem.boot_len (pa_cons (pv 1) pa_nil)) pa_nil)) (pv 1))))), ?_⟩
  obtain ⟨h, p, rfl, ⟨dx, pa, hh, hpa⟩, hp, k⟩ := h
  have zl : sizeLine = 16777216 := rfl
  have m2 := hp.md.code
  refine ⟨_, rfl, h, _, dx, _, _, rfl, hh, T.cl_Held, T.n_Held_program, rfl, ?_⟩
  refine ⟨pa, p, rfl, hpa, hp.ok, by omega, fun H1 M s1 nM h2 => ?_⟩
  rw [needed_ones_is] at h2
  have no : (neededOnes p).length ≤ 600 := by
    show ((neededIx p).map Int.ofNat).length ≤ 600
    have fl : (neededIx p).length ≤ p.code.length := Nat.le_trans (List.length_filter_le _ _) (by rw [List.length_range]; exact Nat.le_refl _)
    rw [List.length_map]; omega
  refine ⟨_, rfl, M, _, rfl, .inl (SqL.of h2), (by show 1 ≤ sizeLine; omega), fun q1 n1 => ?_⟩
  have s3 := same_upd (o := .lst [V.int ((((neededOnes p).map V.int).length : Nat) : Int)]) n1
  refine ⟨_, rfl, q1, M, _, _, rfl, rfl, upd_same, s3 _ _ h2, by simp; omega, fun q2 n2 => ?_⟩
  refine (told_give k ⟨dx, pa, hh, hpa⟩ (s1.trans s3)).now ?_ n2
  rw [List.length_map]
  rfl
def textOf (p : Prog) (k : Int) : Except Int (List Int) := if 0 ≤ k ∧ k ≤ 2 then (if Vagrai.tellable (textProg p k) = true then .ok (((((Vagrai.text (textProg p k)).map Int.ofNat).length : Nat) : Int) :: (Vagrai.text (textProg p k)).map Int.ofNat) else .error (-7)) else .error (-1)
def spTextTold (K : PySem.W.Frag) (D : Ad) : Sp := fun vs H Q E => ∃ (h : Addr) (t : Int) (p : Prog), vs = [.ref h, .int t] ∧ HeldAt D H h p ∧ Held p ∧ (∀ e, textOf p t = .error e → RaiseN K D.c_Refusal H E e) ∧ (∀ l, textOf p t = .ok l → GiveA D H Q h p l)
theorem ok_Held_tell_text (T : Txt K mg D) : FnOk P w K mg base (L2.CX P w) 7 D.a_Held_tell_text D.d_Held_tell_text P_Held_tell_text (spTextTold K D) := by
  have G_check_choice := ok_check_choice (P := P) (w := w) (base := base) T
  have G_trimmed := ok_trimmed (P := P) (w := w) (base := base) T
  have G_backward := ok_backward (P := P) (w := w) (base := base) T
  have G_forward := ok_forward (P := P) (w := w) (base := base) T
  have G_text_of := ok_text_of (P := P) (w := w) (base := base) T
  refine T.F_Held_tell_text.okX sc_Held_tell_text (fun vs H Q E h => by first | (obtain ⟨rfl, _⟩ := h; rfl) | (obtain ⟨_, rfl, _⟩ := h; rfl) | (obtain ⟨_, _, rfl, _⟩ := h; rfl) | (obtain ⟨_, _, _, rfl, _⟩ := h; rfl) | (obtain ⟨_, _, _, _, rfl, _⟩ := h; rfl) | (obtain ⟨_, _, _, _, _, rfl, _⟩ := h; rfl) | (obtain ⟨_, _, _, _, _, _, rfl, _⟩ := h; rfl) | (obtain ⟨_, _, _, _, _, _, _, rfl, _⟩ := h; rfl) | (obtain ⟨_, _, _, _, _, _, _, _, rfl, _⟩ := h; rfl) | (obtain ⟨_, _, _, _, _, _, _, _, _, rfl, _⟩ := h; rfl) | (obtain ⟨_, _, _, _, _, _, _, _, _, _, rfl, _⟩ := h; rfl) | (obtain ⟨_, _, _, _, _, _, _, _, _, _, _, rfl, _⟩ := h; rfl) | (obtain ⟨_, _, _, _, _, _, _, _, _, _, _, _, rfl, _⟩ := h; rfl)) (fun cdv A outer s H vs Q E hr h => ?_)
  refine ⟨_, (pss_cons (ps_expr (pe_call G_check_choice (hr.mono (by decide)) rfl T.g_check_choice T.F_check_choice.kp (b_check_choice T) .nil (passes_call (takes_of rfl rfl rfl rfl) (fun _ _ _ _ z => z)) (pa_cons (pv 1) (pa_cons pe_int pa_nil))))
    (pss_cons (ps_set (i := 2) sc_Held_tell_text.nd rfl (.inl rfl) (pe_fld (pv 0) rfl))
    (pss_cons (ps_if (pt_cmpR op_eq (pv 1) pe_int (nomark _)) (pss_one (ps_set (i := 2) sc_Held_tell_text.nd rfl (.inl rfl) (pe_call G_trimmed (hr.mono (by decide)) rfl T.g_trimmed T.F_trimmed.kp (b_trimmed T) .nil pass0 (pa_cons (pe_call G_backward (hr.mono (by decide)) rfl T.g_backward T.F_backward.kp (b_backward T) .nil pass0 (pa_cons (pv 2) pa_nil)) pa_nil)))) (pss_one (ps_if (pt_cmpR op_eq (pv 1) pe_int (nomark _)) (pss_one (ps_set (i := 2) sc_Held_tell_text.nd rfl (.inl rfl) (pe_call G_trimmed (hr.mono (by decide)) rfl T.g_trimmed T.F_trimmed.kp (b_trimmed T) .nil pass0 (pa_cons (pe_call G_forward (hr.mono (by decide)) rfl T.g_forward T.F_forward.kp (b_forward T) .nil pass0 (pa_cons (pv 2) pa_nil)) pa_nil)))) pss_nil)))
    (pss_cons (ps_set (i := 3) sc_Held_tell_text.nd rfl (.inl rfl) (pe_call G_text_of (hr.mono (by decide)) rfl T.g_text_of T.F_text_of.kp (b_text_of T) .nil (passes_call (takes_of rfl rfl rfl rfl) (fun _ _ _ _ z => z)) (pa_cons (pv 2) pa_nil)))
    (pss_one (ps_ret (pe_op op_cat (pe_lst (pa_cons (pe_callB call_len_str (by rfl) T.f_len PySem.boot_len (pa_cons (pv 3) pa_nil)) pa_nil)) (pe_lc (own := [("sign", 4)]) (g := gName 4) (tt := tYes) rfl sc_Held_tell_text.nd (pi_str (pv 3)) (blkOk_by (own := [("sign", 4)]) (N := N_Held_tell_text) (sc := defScope s_Held_tell_text) (by decide +kernel)) (fun _ _ _ _ _ => pg_name (i := 4) sc_Held_tell_text.nd rfl (Or.inl rfl)) (fun _ _ _ _ _ => pts_nil) (fun _ _ _ _ _ => (pe_callB call_ord (by rfl) T.f_ord (by decide +kernel) (pa_cons (pv 4) pa_nil))))))))))), ?_⟩
  obtain ⟨h, t, p, rfl, ⟨dx, pa, hh, hpa⟩, hp, kr, ks⟩ := h
  have zl : sizeLine = 16777216 := rfl
  have m2 := hp.md.code
  unfold textOf at kr ks
  refine ⟨_, rfl, t, 2, rfl, fun c => by rw [if_neg c] at kr; exact kr _ rfl, fun c => ?_⟩
  rw [if_pos c] at kr ks
  refine ⟨_, rfl, h, _, dx, _, _, rfl, hh, T.cl_Held, T.n_Held_program, rfl, ?_⟩
  have bb := back_bounds hp
  have fb := fwd_bounds hp
  have tlb := trimmed_len (Vagrai.backward p)
  have tlf := trimmed_len (Vagrai.forward p)
  obtain rfl | rfl | rfl : t = 0 ∨ t = 1 ∨ t = 2 := by omega
  case' inl =>
    refine ⟨_, rfl, rfl, _, rfl, ifF rfl ⟨_, rfl, rfl, _, rfl, ifF rfl ?_⟩⟩
    have sQ : Same H H := fun _ _ z => z
    have hQ : ProgAt D H pa (textProg p 0) := hpa
    have okQ : ProgOk (textProg p 0) := hp.ok
    have leQ : (textProg p 0).code.length ≤ 20000 := by show p.code.length ≤ 20000; omega
    generalize textProg p 0 = pq at *
  case' inr.inl =>
    refine ⟨_, rfl, rfl, _, rfl, ifT rfl ?_⟩
    refine ⟨_, rfl, pa, p, rfl, hpa, hp.ok, hp.md, fun H1 q1 s1 n1 h1 => ?_⟩
    refine ⟨q1, _, rfl, h1, bb.1, by omega, by omega, fun H2 q2 s2 n2 hQ => ?_⟩
    have sQ := s1.trans s2
    have hQ : ProgAt D H2 q2 (textProg p 1) := hQ
    have okQ : ProgOk (textProg p 1) := trimmed_ok bb.1
    have leQ : (textProg p 1).code.length ≤ 20000 := Nat.le_trans tlb bb.2.1
    generalize textProg p 1 = pq at *
  case' inr.inr =>
    refine ⟨_, rfl, rfl, _, rfl, ifF rfl ⟨_, rfl, rfl, _, rfl, ifT rfl ?_⟩⟩
    refine ⟨_, rfl, pa, p, rfl, hpa, hp.ok, hp.md, fun H1 q1 s1 n1 h1 => ?_⟩
    refine ⟨q1, _, rfl, h1, fb.1, by omega, by omega, fun H2 q2 s2 n2 hQ => ?_⟩
    have sQ := s1.trans s2
    have hQ : ProgAt D H2 q2 (textProg p 2) := hQ
    have okQ : ProgOk (textProg p 2) := trimmed_ok fb.1
    have leQ : (textProg p 2).code.length ≤ 20000 := Nat.le_trans tlf fb.2.1
    generalize textProg p 2 = pq at *
  all_goals
    refine ⟨_, rfl, _, pq, rfl, hQ, okQ, leQ, fun ht => ?_, fun ht H4 tx s4 etx ltx => ?_⟩
    · rw [ht, if_neg Bool.false_ne_true] at kr
      exact (kr _ rfl).later sQ
    · rw [ht, if_pos rfl] at ks
      have ka := ks _ rfl
      have s04 := sQ.trans s4
      rw [← etx] at ka
      refine ⟨_, rfl, tx, rfl, by omega, (by show 1 ≤ sizeLine; omega), fun L1 n1 => ?_⟩
      have sL := same_upd (o := .lst [V.int (tx.length : Int)]) n1
      have hL1 : upd H4 L1 (.lst [V.int (tx.length : Int)]) L1 = some (.lst [V.int (tx.length : Int)]) := upd_same
      generalize upd H4 L1 (.lst [V.int (tx.length : Int)]) = H5 at sL hL1
      refine ⟨_, rfl, tx, rfl, fun M hM => ?_⟩
      refine lc_it (walk_str (z := tx)) (fun i H' => Same H5 H' ∧ H' M = some (.lst ((((codes tx).take i).map Int.ofNat).map V.int))) ⟨same_upd hM, upd_same⟩ (fun _ _ _ _ => True.intro) (fun i y H' H6 hi e yy => ?_) (fun H' e => ?_)
      · obtain ⟨rfl, c, hc, rfl⟩ := yy
        obtain ⟨s6, h6⟩ := e
        have hcc : (codes tx)[i]? = some c := by
          show tx.cps.toList[i]? = some c
          rw [Array.getElem?_toList]
          exact hc
        have il : i < tx.length := hi
        refine ⟨rfl, _, rfl, _, rfl, rfl, ?_⟩
        refine ⟨_, h6, by simp; omega, fun b o z => (upd_ne (ne_of_none z hM)).trans (s6 _ _ z), ?_⟩
        rw [upd_same, List.take_add_one, hcc, List.map_append, List.map_append]
        rfl
      · obtain ⟨s6, h6⟩ := e
        have el : (codes tx).take tx.cps.size = codes tx := List.take_of_length_le (by rw [codes_len]; exact Nat.le_refl _)
        rw [el] at h6
        have sl := codes_len tx
        refine ⟨L1, M, _, _, rfl, rfl, s6 _ _ hL1, h6, by simp; omega, fun q2 n2 => ?_⟩
        refine (told_give ka ⟨dx, pa, hh, hpa⟩ (s04.trans (sL.trans s6))).now ?_ n2
        rw [List.length_map, sl]
        rfl
end Lc
set_option Elab.async false
set_option linter.all false
set_option maxRecDepth 100000
set_option maxHeartbeats 4000000
namespace Lc
open PySem PySem.Spec PyProof.Rows L2
open Vagraa (Frac frac)
open VagraLine (Line)
open Vagrai (Prog Work)
variable {P : Program} {w : World} {K : PySem.W.Frag} {mg : Str → Option Value} {base : Heap} {D : Ad}
def tkF (src : Addr) (i : Nat) : List (Str × V) := [("source", .ref src), ("place", .int (i : Int))]
/-- the taker at t stands at place i of the list at src -/
def TakerAt (D : Ad) (H : Hp) (t src : Addr) (i : Nat) : Prop := ∃ dx, H t = some (.ins D.c_Taker dx (tkF src i))
theorem TakerAt.same {D : Ad} {H H' : Hp} {t src : Addr} {i : Nat} (e : Same H H') (h : TakerAt D H t src i) : TakerAt D H' t src i := by
  obtain ⟨dx, h⟩ := h
  exact ⟨dx, e _ _ h⟩
theorem sqL_but {K : PySem.W.Frag} {H H' : Hp} {a t : Addr} {xs : List V} {C dx : Addr} {fs : List (Str × V)} (ht : H t = some (.ins C dx fs)) (k : But H H' t) (h : SqL K H a xs) : SqL K H' a xs := by
  rcases h with (h | ⟨o, h⟩) | h
  · exact .inl (.inl (k _ _ h (ne_of h ht nofun)))
  · exact .inl (.inr ⟨o, k _ _ h (ne_of h ht nofun)⟩)
  · exact .inr h
def spTakerInit (D : Ad) : Sp := fun vs H Q _ => ∃ x dx src : Addr, vs = [.ref x, .ref src] ∧ H x = some (.ins D.c_Taker dx []) ∧ Q .non (upd H x (.ins D.c_Taker dx (tkF src 0)))
theorem ok_Taker_init (T : Txt K mg D) : FnOk P w K mg base CX0 1 D.a_Taker_init D.d_Taker_init P_Taker_init (spTakerInit D) := by
  refine T.F_Taker_init.ok sc_Taker_init (fun vs H Q E h => by first | (obtain ⟨rfl, _⟩ := h; rfl) | (obtain ⟨_, rfl, _⟩ := h; rfl) | (obtain ⟨_, _, rfl, _⟩ := h; rfl) | (obtain ⟨_, _, _, rfl, _⟩ := h; rfl) | (obtain ⟨_, _, _, _, rfl, _⟩ := h; rfl) | (obtain ⟨_, _, _, _, _, rfl, _⟩ := h; rfl) | (obtain ⟨_, _, _, _, _, _, rfl, _⟩ := h; rfl) | (obtain ⟨_, _, _, _, _, _, _, rfl, _⟩ := h; rfl) | (obtain ⟨_, _, _, _, _, _, _, _, rfl, _⟩ := h; rfl) | (obtain ⟨_, _, _, _, _, _, _, _, _, rfl, _⟩ := h; rfl) | (obtain ⟨_, _, _, _, _, _, _, _, _, _, rfl, _⟩ := h; rfl) | (obtain ⟨_, _, _, _, _, _, _, _, _, _, _, rfl, _⟩ := h; rfl) | (obtain ⟨_, _, _, _, _, _, _, _, _, _, _, _, rfl, _⟩ := h; rfl)) (fun cdv A outer s H vs Q E hr h => ?_)
  refine ⟨_, (pss_cons (ps_fld (pv 0) (pv 1) rfl)
    (pss_one (ps_fld (pv 0) pe_int rfl))), ?_⟩
  obtain ⟨x, dx, src, rfl, hx, k⟩ := h
  refine ⟨_, rfl, _, rfl, x, _, dx, [], rfl, hx, T.cl_Taker, T.n_Taker_source, (by show 0 < 1000; decide), ?_⟩
  refine ⟨_, rfl, x, _, dx, _, rfl, upd_same, T.cl_Taker, T.n_Taker_place, (by show 1 < 1000; decide), ?_⟩
  show Q .non _
  rw [upd_upd]
  exact k
def spDone (K : PySem.W.Frag) (D : Ad) : Sp := fun vs H Q _ => ∃ (t src : Addr) (i : Nat) (l : List Int), vs = [.ref t] ∧ TakerAt D H t src i ∧ SqL K H src (l.map V.int) ∧ Q (.bl (decide (l.length ≤ i))) H
theorem ok_Taker_is_done (T : Txt K mg D) : FnOk P w K mg base CX0 1 D.a_Taker_is_done D.d_Taker_is_done P_Taker_is_done (spDone K D) := by
  refine T.F_Taker_is_done.ok sc_Taker_is_done (fun vs H Q E h => by first | (obtain ⟨rfl, _⟩ := h; rfl) | (obtain ⟨_, rfl, _⟩ := h; rfl) | (obtain ⟨_, _, rfl, _⟩ := h; rfl) | (obtain ⟨_, _, _, rfl, _⟩ := h; rfl) | (obtain ⟨_, _, _, _, rfl, _⟩ := h; rfl) | (obtain ⟨_, _, _, _, _, rfl, _⟩ := h; rfl) | (obtain ⟨_, _, _, _, _, _, rfl, _⟩ := h; rfl) | (obtain ⟨_, _, _, _, _, _, _, rfl, _⟩ := h; rfl) | (obtain ⟨_, _, _, _, _, _, _, _, rfl, _⟩ := h; rfl) | (obtain ⟨_, _, _, _, _, _, _, _, _, rfl, _⟩ := h; rfl) | (obtain ⟨_, _, _, _, _, _, _, _, _, _, rfl, _⟩ := h; rfl) | (obtain ⟨_, _, _, _, _, _, _, _, _, _, _, rfl, _⟩ := h; rfl) | (obtain ⟨_, _, _, _, _, _, _, _, _, _, _, _, rfl, _⟩ := h; rfl)) (fun cdv A outer s H vs Q E hr h => ?_)
  refine ⟨_, (pss_one (ps_ret (pe_cmpR op_ge (pe_fld (pv 0) rfl) (pe_callB call_len_seq (by rfl) T.f_len PySem.boot_len (pa_cons (pe_fld (pv 0) rfl) pa_nil)) (nomark _)))), ?_⟩
  obtain ⟨t, src, i, l, rfl, ⟨dx, ht⟩, hs, k⟩ := h
  refine ⟨_, rfl, t, _, dx, _, _, rfl, ht, T.cl_Taker, T.n_Taker_place, rfl, _, rfl, t, _, dx, _, _, rfl, ht, T.cl_Taker, T.n_Taker_source, rfl, src, _, rfl, .inl hs, _, _, rfl, rfl, ?_⟩
  have e : decide ((((l.map V.int).length : Nat) : Int) ≤ ((i : Nat) : Int)) = decide (l.length ≤ i) := by
    rw [List.length_map]
    by_cases c : l.length ≤ i
    · rw [decide_eq_true c, decide_eq_true (by omega)]
    · rw [decide_eq_false c, decide_eq_false (by omega)]
  show Q (.bl (decide ((((l.map V.int).length : Nat) : Int) ≤ ((i : Nat) : Int)))) H
  rw [e]
  exact k
def spTakeN (K : PySem.W.Frag) (D : Ad) : Sp := fun vs H Q _ => ∃ (t src : Addr) (i n : Nat) (l : List Int), vs = [.ref t, .int (n : Int)] ∧ TakerAt D H t src i ∧ SqL K H src (l.map V.int) ∧
  ∀ (H' : Hp) (q : Addr), But H H' t → TakerAt D H' t src (i + n) → H q = none → H' q = some (.lst (((l.drop i).take n).map V.int)) → Q (.ref q) H'
theorem ok_Taker_take (T : Txt K mg D) : FnOk P w K mg base CX0 1 D.a_Taker_take D.d_Taker_take P_Taker_take (spTakeN K D) := by
  refine T.F_Taker_take.ok sc_Taker_take (fun vs H Q E h => by first | (obtain ⟨rfl, _⟩ := h; rfl) | (obtain ⟨_, rfl, _⟩ := h; rfl) | (obtain ⟨_, _, rfl, _⟩ := h; rfl) | (obtain ⟨_, _, _, rfl, _⟩ := h; rfl) | (obtain ⟨_, _, _, _, rfl, _⟩ := h; rfl) | (obtain ⟨_, _, _, _, _, rfl, _⟩ := h; rfl) | (obtain ⟨_, _, _, _, _, _, rfl, _⟩ := h; rfl) | (obtain ⟨_, _, _, _, _, _, _, rfl, _⟩ := h; rfl) | (obtain ⟨_, _, _, _, _, _, _, _, rfl, _⟩ := h; rfl) | (obtain ⟨_, _, _, _, _, _, _, _, _, rfl, _⟩ := h; rfl) | (obtain ⟨_, _, _, _, _, _, _, _, _, _, rfl, _⟩ := h; rfl) | (obtain ⟨_, _, _, _, _, _, _, _, _, _, _, rfl, _⟩ := h; rfl) | (obtain ⟨_, _, _, _, _, _, _, _, _, _, _, _, rfl, _⟩ := h; rfl)) (fun cdv A outer s H vs Q E hr h => ?_)
  refine ⟨_, (pss_cons (ps_set (i := 2) sc_Taker_take.nd rfl (.inl rfl) (pe_fld (pv 0) rfl))
    (pss_cons (ps_fld (pv 0) (pe_op op_add (pv 2) (pv 1)) rfl)
    (pss_one (ps_ret (pe_slice sl_list (pe_fld (pv 0) rfl) (po_some (pv 2)) (po_some (pe_fld (pv 0) rfl))))))), ?_⟩
  obtain ⟨t, src, i, n, l, rfl, ⟨dx, ht⟩, hs, k⟩ := h
  refine ⟨_, rfl, t, _, dx, _, _, rfl, ht, T.cl_Taker, T.n_Taker_place, rfl, ?_⟩
  refine ⟨_, rfl, _, rfl, _, _, rfl, rfl, _, rfl, t, _, dx, _, rfl, ht, T.cl_Taker, T.n_Taker_place, (by show 2 < 1000; decide), ?_⟩
  generalize hH1 : upd H t (.ins D.c_Taker dx (putF "place" (.int ((i : Int) + (n : Int))) (tkF src i))) = H1
  have b1 : But H H1 t := fun b o z y => by rw [← hH1, upd_ne y]; exact z
  have h1 : H1 t = some (.ins D.c_Taker dx (tkF src (i + n))) := by rw [← hH1, upd_same]; rfl
  have hs1 := sqL_but ht b1 hs
  refine ⟨_, rfl, t, _, dx, _, _, rfl, h1, T.cl_Taker, T.n_Taker_source, rfl, _, rfl, _, rfl, _, rfl, t, _, dx, _, _, rfl, h1, T.cl_Taker, T.n_Taker_place, rfl, _, rfl, src, _, rfl, hs1, fun q hq => ?_⟩
  have sq := same_upd (o := .lst (((l.drop i).take n).map V.int)) hq
  have ec : cutV (l.map V.int) (some (i : Int)) (some ((i + n : Nat) : Int)) = ((l.drop i).take n).map V.int := by
    rw [cut_nat, List.map_take, List.map_drop]
    congr 1
    omega
  have hq0 : H q = none := by
    cases z : H q with
    | none => rfl
    | some u =>
      by_cases qt : q = t
      · rw [qt, h1] at hq; cases hq
      · rw [b1 _ _ z qt] at hq; cases hq
  show Q (.ref q) (upd H1 q (.lst (cutV (l.map V.int) (some (i : Int)) (some ((i + n : Nat) : Int)))))
  rw [ec]
  exact k _ q (fun b o z y => sq _ _ (b1 _ _ z y)) ⟨dx, sq _ _ h1⟩ hq0 upd_same
theorem drop_get {l : List Int} {i : Nat} {x : Int} (h : l[i]? = some x) : l.drop i = x :: l.drop (i + 1) := by
  obtain ⟨hi, e⟩ := List.getElem?_eq_some_iff.mp h
  rw [List.drop_eq_getElem_cons hi, e]
def spTakeNum (K : PySem.W.Frag) (D : Ad) : Sp := fun vs H Q _ => ∃ (t src : Addr) (i : Nat) (l : List Int) (x : Int), vs = [.ref t] ∧ TakerAt D H t src i ∧ SqL K H src (l.map V.int) ∧ l[i]? = some x ∧
  ∀ H' : Hp, But H H' t → TakerAt D H' t src (i + 1) → Q (.int x) H'
theorem ok_Taker_take_number (T : Txt K mg D) : FnOk P w K mg base CX0 2 D.a_Taker_take_number D.d_Taker_take_number P_Taker_take_number (spTakeNum K D) := by
  have G_Taker_take := ok_Taker_take (P := P) (w := w) (base := base) T
  refine T.F_Taker_take_number.ok sc_Taker_take_number (fun vs H Q E h => by first | (obtain ⟨rfl, _⟩ := h; rfl) | (obtain ⟨_, rfl, _⟩ := h; rfl) | (obtain ⟨_, _, rfl, _⟩ := h; rfl) | (obtain ⟨_, _, _, rfl, _⟩ := h; rfl) | (obtain ⟨_, _, _, _, rfl, _⟩ := h; rfl) | (obtain ⟨_, _, _, _, _, rfl, _⟩ := h; rfl) | (obtain ⟨_, _, _, _, _, _, rfl, _⟩ := h; rfl) | (obtain ⟨_, _, _, _, _, _, _, rfl, _⟩ := h; rfl) | (obtain ⟨_, _, _, _, _, _, _, _, rfl, _⟩ := h; rfl) | (obtain ⟨_, _, _, _, _, _, _, _, _, rfl, _⟩ := h; rfl) | (obtain ⟨_, _, _, _, _, _, _, _, _, _, rfl, _⟩ := h; rfl) | (obtain ⟨_, _, _, _, _, _, _, _, _, _, _, rfl, _⟩ := h; rfl) | (obtain ⟨_, _, _, _, _, _, _, _, _, _, _, _, rfl, _⟩ := h; rfl)) (fun cdv A outer s H vs Q E hr h => ?_)
  refine ⟨_, (pss_one (ps_ret (pe_ix ix_list (pe_meth (pv 0) T.cl_Taker T.m_Taker_take G_Taker_take (hr.mono (by decide)) (b_Taker_take T) .nil pass0 (pa_cons pe_int pa_nil)) pe_int (fun _ _ => rfl)))), ?_⟩
  obtain ⟨t, src, i, l, x, rfl, ⟨dx, ht⟩, hs, hx, k⟩ := h
  refine ⟨_, rfl, t, dx, _, rfl, ht, rfl, ?_⟩
  refine ⟨t, src, i, 1, l, rfl, ⟨dx, ht⟩, hs, fun H1 q b1 t1 nq hq => ?_⟩
  rw [drop_get hx] at hq
  exact ⟨q, _, (0 : Int), .int x, rfl, rfl, SqL.of hq, rfl, k H1 b1 t1⟩
def spTakeRow (K : PySem.W.Frag) (D : Ad) : Sp := fun vs H Q _ => ∃ (t src : Addr) (i : Nat) (l : List Int) (n : Nat), vs = [.ref t] ∧ TakerAt D H t src i ∧ SqL K H src (l.map V.int) ∧ l[i]? = some (n : Int) ∧
  ∀ (H' : Hp) (q : Addr), But H H' t → TakerAt D H' t src (i + 1 + n) → H q = none → H' q = some (.lst (((l.drop (i + 1)).take n).map V.int)) → Q (.ref q) H'
theorem ok_Taker_take_row (T : Txt K mg D) : FnOk P w K mg base CX0 3 D.a_Taker_take_row D.d_Taker_take_row P_Taker_take_row (spTakeRow K D) := by
  have G_Taker_take := ok_Taker_take (P := P) (w := w) (base := base) T
  have G_Taker_take_number := ok_Taker_take_number (P := P) (w := w) (base := base) T
  refine T.F_Taker_take_row.ok sc_Taker_take_row (fun vs H Q E h => by first | (obtain ⟨rfl, _⟩ := h; rfl) | (obtain ⟨_, rfl, _⟩ := h; rfl) | (obtain ⟨_, _, rfl, _⟩ := h; rfl) | (obtain ⟨_, _, _, rfl, _⟩ := h; rfl) | (obtain ⟨_, _, _, _, rfl, _⟩ := h; rfl) | (obtain ⟨_, _, _, _, _, rfl, _⟩ := h; rfl) | (obtain ⟨_, _, _, _, _, _, rfl, _⟩ := h; rfl) | (obtain ⟨_, _, _, _, _, _, _, rfl, _⟩ := h; rfl) | (obtain ⟨_, _, _, _, _, _, _, _, rfl, _⟩ := h; rfl) | (obtain ⟨_, _, _, _, _, _, _, _, _, rfl, _⟩ := h; rfl) | (obtain ⟨_, _, _, _, _, _, _, _, _, _, rfl, _⟩ := h; rfl) | (obtain ⟨_, _, _, _, _, _, _, _, _, _, _, rfl, _⟩ := h; rfl) | (obtain ⟨_, _, _, _, _, _, _, _, _, _, _, _, rfl, _⟩ := h; rfl)) (fun cdv A outer s H vs Q E hr h => ?_)
  refine ⟨_, (pss_one (ps_ret (pe_meth (pv 0) T.cl_Taker T.m_Taker_take G_Taker_take (hr.mono (by decide)) (b_Taker_take T) .nil pass0 (pa_cons (pe_meth0 (pv 0) T.cl_Taker T.m_Taker_take_number G_Taker_take_number (hr.mono (by decide)) (b_Taker_take_number T) .nil pass0) pa_nil)))), ?_⟩
  obtain ⟨t, src, i, l, n, rfl, ⟨dx, ht⟩, hs, hx, k⟩ := h
  refine ⟨_, rfl, t, dx, _, rfl, ht, rfl, _, rfl, t, dx, _, rfl, ht, rfl, ?_⟩
  refine ⟨t, src, i, l, (n : Int), rfl, ⟨dx, ht⟩, hs, hx, fun H1 b1 t1 => ?_⟩
  refine ⟨t, src, i + 1, n, l, rfl, t1, sqL_but ht b1 hs, fun H2 q b2 t2 nq hq => ?_⟩
  have nq0 : H q = none := by
    obtain ⟨d2, t1⟩ := t1
    cases z : H q with
    | none => rfl
    | some u =>
      by_cases qt : q = t
      · rw [qt, t1] at nq; cases nq
      · rw [b1 _ _ z qt] at nq; cases nq
  exact k H2 q (fun b o z y => b2 _ _ (b1 _ _ z y) y) t2 nq0 hq
end Lc
set_option Elab.async false
set_option linter.all false
set_option maxRecDepth 100000
set_option maxHeartbeats 4000000
/-! What a call comes to, in the words of the program's defs. -/
namespace Lc
open Vagraa (Frac frac)
open VagraLine (Line)
open Vagrai (Prog State out)
theorem out_code (p : Prog) (n : Int) (l o : List Int) : out ⟨p⟩ (.code n l o) = match readP n l o with
    | .error e => .error e
    | .ok q => .ok (⟨q⟩, [(q.code.length : Int)]) := by
  unfold out readP Vagrai.ranged
  by_cases hn : 0 ≤ n ∧ n ≤ 12
  · have hn' : (0 : Int) ≤ n ∧ n ≤ ((Vagrai.MOSTINPUTS : Nat) : Int) := hn
    rw [if_pos hn]
    simp only [if_pos hn']
    show (match VagraLine.codeOf l.length l with
      | none => Except.error (-2)
      | some c => (do
        Vagrai.refuseIf (decide (Vagrai.MOSTLINES < c.length)) (-7)
        Vagrai.refuseIf (!VagraLine.well n.toNat c) (-3)
        let o ← Vagrai.outsOf c o
        .ok ({ prog := ⟨n.toNat, c, o⟩ }, [(c.length : Int)]) : Vagrai.R (State × List Int))) = _
    show _ = match (match codeIn l with
      | none => Except.error (-2)
      | some c => if 80 < c.length then Except.error (-7) else if VagraLine.well n.toNat c = false then Except.error (-3) else match Vagrai.outsOf c o with
        | Except.error e => Except.error e
        | Except.ok o => Except.ok (⟨n.toNat, c, o⟩ : Prog) : Except Int Prog) with
      | Except.error e => Except.error e
      | Except.ok q => Except.ok ((⟨q⟩ : State), [(q.code.length : Int)])
    unfold codeIn
    cases VagraLine.codeOf l.length l with
    | none => rfl
    | some c =>
      by_cases h8 : 80 < c.length
      · simp [Vagrai.refuseIf, Vagrai.MOSTLINES, h8]
        rfl
      · cases hw : VagraLine.well n.toNat c with
        | false =>
          simp [Vagrai.refuseIf, Vagrai.MOSTLINES, h8, hw]
          rfl
        | true =>
          simp [Vagrai.refuseIf, Vagrai.MOSTLINES, h8, hw]
          cases Vagrai.outsOf c o <;> rfl
  · have hn' : ¬ ((0 : Int) ≤ n ∧ n ≤ ((Vagrai.MOSTINPUTS : Nat) : Int)) := hn
    rw [if_neg hn]
    simp only [if_neg hn']
    rfl
theorem made_is (p : Prog) (w t : Nat) : Vagrai.made p w t = trimIf (t : Int) (if w = 0 then Vagrai.backward p else Vagrai.forward p) := by
  unfold Vagrai.made trimIf
  by_cases h : t = 1
  · subst h; cases w <;> rfl
  · rw [if_neg (show ¬ ((t : Int) = 1) by omega)]
    match t, h with
    | 0, _ => cases w <;> rfl
    | 1, h => exact absurd rfl h
    | t + 2, _ => cases w <;> rfl
theorem toNat_of {t : Int} (h : 0 ≤ t) : ((t.toNat : Nat) : Int) = t := by omega
theorem out_tell (p : Prog) (t : Int) (w : Nat) (k : Vagrai.Call) (hk : k = (if w = 0 then .back t else .ahead t)) (hw : w = 0 ∨ w = 1) :
    out ⟨p⟩ k = if 0 ≤ t ∧ t ≤ 1 then .ok (⟨p⟩, Vagrai.progTold (trimIf t (if w = 0 then Vagrai.backward p else Vagrai.forward p))) else .error (-1) := by
  have key : ∀ w : Nat, (do
      let t ← Vagrai.ranged t 0 1
      .ok (Vagrai.progTold (Vagrai.made p w t)) : Vagrai.R (List Int)) = if 0 ≤ t ∧ t ≤ 1 then .ok (Vagrai.progTold (trimIf t (if w = 0 then Vagrai.backward p else Vagrai.forward p))) else .error (-1) := fun w => by
    unfold Vagrai.ranged
    by_cases ht : 0 ≤ t ∧ t ≤ 1
    · simp only [if_pos ht]
      show Except.ok (Vagrai.progTold (Vagrai.made p w t.toNat)) = _
      rw [made_is, toNat_of ht.1]
    · simp only [if_neg ht]
      rfl
  rcases hw with rfl | rfl
  · subst hk
    show (do let l ← (do
          let t ← Vagrai.ranged t 0 1
          .ok (Vagrai.progTold (Vagrai.made p 0 t)) : Vagrai.R (List Int)); .ok ((⟨p⟩ : State), l) : Vagrai.R (State × List Int)) = _
    rw [key 0]
    by_cases ht : 0 ≤ t ∧ t ≤ 1
    · rw [if_pos ht, if_pos ht]; rfl
    · rw [if_neg ht, if_neg ht]; rfl
  · subst hk
    show (do let l ← (do
          let t ← Vagrai.ranged t 0 1
          .ok (Vagrai.progTold (Vagrai.made p 1 t)) : Vagrai.R (List Int)); .ok ((⟨p⟩ : State), l) : Vagrai.R (State × List Int)) = _
    rw [key 1]
    by_cases ht : 0 ≤ t ∧ t ≤ 1
    · rw [if_pos ht, if_pos ht]; rfl
    · rw [if_neg ht, if_neg ht]; rfl
theorem out_back (p : Prog) (t : Int) : out ⟨p⟩ (.back t) = if 0 ≤ t ∧ t ≤ 1 then .ok (⟨p⟩, Vagrai.progTold (trimIf t (Vagrai.backward p))) else .error (-1) := out_tell p t 0 _ rfl (.inl rfl)
theorem out_ahead (p : Prog) (t : Int) : out ⟨p⟩ (.ahead t) = if 0 ≤ t ∧ t ≤ 1 then .ok (⟨p⟩, Vagrai.progTold (trimIf t (Vagrai.forward p))) else .error (-1) := out_tell p t 1 _ rfl (.inr rfl)
theorem out_adopt (p : Prog) (w t : Int) : out ⟨p⟩ (.adopt w t) = match adoptOf w t p with
    | .error e => .error e
    | .ok q => .ok (⟨q⟩, [(q.inputs : Int), (q.code.length : Int), (q.outs.length : Int)]) := by
  unfold out adoptOf Vagrai.ranged
  by_cases hw : 0 ≤ w ∧ w ≤ 1
  · rw [if_pos hw]
    simp only [if_pos hw]
    by_cases ht : 0 ≤ t ∧ t ≤ 1
    · rw [if_pos ht]
      simp only [if_pos ht]
      show (do
        Vagrai.refuseIf (decide (2 * Vagrai.MOSTINPUTS < (Vagrai.made p w.toNat t.toNat).inputs) || decide (Vagrai.LARGE < (Vagrai.made p w.toNat t.toNat).code.length)) (-7)
        .ok ({ prog := Vagrai.made p w.toNat t.toNat }, [((Vagrai.made p w.toNat t.toNat).inputs : Int), ((Vagrai.made p w.toNat t.toNat).code.length : Int), ((Vagrai.made p w.toNat t.toNat).outs.length : Int)]) : Vagrai.R (State × List Int)) = _
      rw [made_is, toNat_of ht.1]
      have ew : (w.toNat = 0) = (w = 0) := by
        apply propext
        omega
      simp only [ew]
      generalize trimIf t (if w = 0 then Vagrai.backward p else Vagrai.forward p) = q
      by_cases h1 : 24 < q.inputs ∨ 600 < q.code.length
      · rw [if_pos h1]
        have e : (decide (2 * Vagrai.MOSTINPUTS < q.inputs) || decide (Vagrai.LARGE < q.code.length)) = true := by
          show (decide (24 < q.inputs) || decide (600 < q.code.length)) = true
          rcases h1 with h | h <;> simp [h]
        rw [e]
        rfl
      · rw [if_neg h1]
        have e : (decide (2 * Vagrai.MOSTINPUTS < q.inputs) || decide (Vagrai.LARGE < q.code.length)) = false := by
          show (decide (24 < q.inputs) || decide (600 < q.code.length)) = false
          rw [decide_eq_false (by omega), decide_eq_false (by omega)]
          rfl
        rw [e]
        rfl
    · rw [if_neg ht]
      simp only [if_neg ht]
      rfl
  · rw [if_neg hw]
    simp only [if_neg hw]
    rfl
theorem out_run (p : Prog) (l : List Int) : out ⟨p⟩ (.run l) = match runOf p l with
    | .error e => .error e
    | .ok a => .ok (⟨p⟩, a) := by
  unfold runOf
  show (do let l ← (do
        let x ← Vagrai.fracs p.inputs l
        Vagrai.ranTold p x : Vagrai.R (List Int)); .ok ((⟨p⟩ : State), l) : Vagrai.R (State × List Int)) = _
  cases Vagrai.fracs p.inputs l with
  | error e => rfl
  | ok fs =>
    show (do let l ← Vagrai.ranTold p fs; .ok ((⟨p⟩ : State), l) : Vagrai.R (State × List Int)) = _
    rw [ranTold_is]
    rfl
theorem out_grad (p : Prog) (f : Prog → Prog) (n m : Nat) (l r : List Int) : (((do
        let x ← Vagrai.fracs n l
        let w ← Vagrai.fracs m r
        Vagrai.ranTold (Vagrai.trimmed (f p)) (x ++ w) : Vagrai.R (List Int)) >>= fun l => Except.ok ((⟨p⟩ : State), l)) : Vagrai.R (State × List Int)) = match gradOf f n m p l r with
    | .error e => .error e
    | .ok a => .ok (⟨p⟩, a) := by
  unfold gradOf
  cases Vagrai.fracs n l with
  | error e => rfl
  | ok fs =>
    cases Vagrai.fracs m r with
    | error e => rfl
    | ok gs =>
      show (do let l ← Vagrai.ranTold (Vagrai.trimmed (f p)) (fs ++ gs); .ok ((⟨p⟩ : State), l) : Vagrai.R (State × List Int)) = _
      rw [ranTold_is]
      rfl
theorem out_gradient (p : Prog) (l r : List Int) : out ⟨p⟩ (.gradient l r) = match gradOf Vagrai.backward p.inputs p.outs.length p l r with
    | .error e => .error e
    | .ok a => .ok (⟨p⟩, a) := out_grad p Vagrai.backward p.inputs p.outs.length l r
theorem out_change (p : Prog) (l r : List Int) : out ⟨p⟩ (.change l r) = match gradOf Vagrai.forward p.inputs p.inputs p l r with
    | .error e => .error e
    | .ok a => .ok (⟨p⟩, a) := out_grad p Vagrai.forward p.inputs p.inputs l r
theorem out_ops (p : Prog) : out ⟨p⟩ .ops = .ok (⟨p⟩, [Vagrai.opsOf p, Vagrai.opsOf (Vagrai.backward p), Vagrai.opsOf (Vagrai.trimmed (Vagrai.backward p)), Vagrai.opsOf (Vagrai.forward p), Vagrai.opsOf (Vagrai.trimmed (Vagrai.forward p))]) := rfl
theorem out_lines (p : Prog) : out ⟨p⟩ .lines = .ok (⟨p⟩, (p.inputs : Int) :: Vagrai.progTold p) := rfl
theorem out_needed (p : Prog) : out ⟨p⟩ .needed = .ok (⟨p⟩, ((neededOnes p).length : Int) :: neededOnes p) := rfl
theorem out_text (p : Prog) (k : Int) : out ⟨p⟩ (.text k) = if 0 ≤ k ∧ k ≤ 2 then (if Vagrai.tellable (textProg p k) = true then .ok (⟨p⟩, ((((Vagrai.text (textProg p k)).map Int.ofNat).length : Nat) : Int) :: (Vagrai.text (textProg p k)).map Int.ofNat) else .error (-7)) else .error (-1) := by
  by_cases h : 0 ≤ k ∧ k ≤ 2
  · rw [if_pos h]
    have e : Vagrai.ranged k 0 2 = .ok k.toNat := if_pos h
    show (do let l ← (do
          let t ← Vagrai.ranged k 0 2
          let q := Vagrai.asked_ p t
          Vagrai.refuseIf (!Vagrai.tellable q) (-7)
          .ok (Vagrai.listed ((Vagrai.text q).map Int.ofNat)) : Vagrai.R (List Int)); .ok ((⟨p⟩ : State), l) : Vagrai.R (State × List Int)) = _
    rw [e]
    have q : Vagrai.asked_ p k.toNat = textProg p k := by
      unfold Vagrai.asked_ textProg
      by_cases k0 : k = 0
      · rw [if_pos k0, if_pos (by omega)]
      · rw [if_neg k0, if_neg (by omega)]
        by_cases k1 : k = 1
        · rw [if_pos k1, if_pos (by omega)]; rfl
        · rw [if_neg k1, if_neg (by omega)]; rfl
    show (do let l ← (do
          Vagrai.refuseIf (!Vagrai.tellable (Vagrai.asked_ p k.toNat)) (-7)
          .ok (Vagrai.listed ((Vagrai.text (Vagrai.asked_ p k.toNat)).map Int.ofNat)) : Vagrai.R (List Int)); .ok ((⟨p⟩ : State), l) : Vagrai.R (State × List Int)) = _
    rw [q]
    cases ht : Vagrai.tellable (textProg p k) with
    | true => rw [if_pos rfl]; rfl
    | false => rw [if_neg Bool.false_ne_true]; rfl
  · rw [if_neg h]
    have e : Vagrai.ranged k 0 2 = .error (-1) := if_neg h
    show (do let l ← (do
          let t ← Vagrai.ranged k 0 2
          let q := Vagrai.asked_ p t
          Vagrai.refuseIf (!Vagrai.tellable q) (-7)
          .ok (Vagrai.listed ((Vagrai.text q).map Int.ofNat)) : Vagrai.R (List Int)); .ok ((⟨p⟩ : State), l) : Vagrai.R (State × List Int)) = _
    rw [e]
    rfl
/-! ### what is held stays well made -/
theorem held_read {n : Int} {ns os : List Int} {q : Prog} (h : readP n ns os = .ok q) : Held q := by
  unfold readP at h
  by_cases hn : 0 ≤ n ∧ n ≤ 12
  · rw [if_pos hn] at h
    cases hc : codeIn ns with
    | none => rw [hc] at h; cases h
    | some c =>
      rw [hc] at h
      have h : (if 80 < c.length then .error (-7) else if VagraLine.well n.toNat c = false then .error (-3) else match Vagrai.outsOf c os with
        | .error e => .error e
        | .ok o => .ok ⟨n.toNat, c, o⟩ : Except Int Prog) = .ok q := h
      by_cases h8 : 80 < c.length
      · rw [if_pos h8] at h; cases h
      · rw [if_neg h8] at h
        cases hw : VagraLine.well n.toNat c with
        | false => rw [if_pos hw] at h; cases h
        | true =>
          rw [if_neg (by rw [hw]; nofun)] at h
          by_cases ho : outsOk c os
          · rw [outsOf_ok ho] at h
            cases h
            refine ⟨⟨read_ok hc hw, fun o hom => ?_⟩, ⟨by show n.toNat ≤ 24; omega, by show c.length ≤ 600; omega, by show (os.map Int.toNat).length ≤ 24; have := ho.2.2; simp; omega⟩⟩
            obtain ⟨x, hx, rfl⟩ := List.mem_map.mp hom
            have := ho.1 x hx
            show x.toNat < c.length
            omega
          · rw [outsOf_no ho] at h; cases h
  · rw [if_neg hn] at h; cases h
theorem held_adopt {w t : Int} {p q : Prog} (hp : Held p) (h : adoptOf w t p = .ok q) : Held q := by
  unfold adoptOf at h
  by_cases hw : 0 ≤ w ∧ w ≤ 1
  · rw [if_pos hw] at h
    by_cases ht : 0 ≤ t ∧ t ≤ 1
    · rw [if_pos ht] at h
      revert h
      generalize hq : trimIf t (if w = 0 then Vagrai.backward p else Vagrai.forward p) = r
      intro h
      by_cases hb : 24 < r.inputs ∨ 600 < r.code.length
      · rw [if_pos hb] at h; cases h
      · rw [if_neg hb] at h
        cases h
        subst hq
        have o : ProgOk (if w = 0 then Vagrai.backward p else Vagrai.forward p) ∧ (if w = 0 then Vagrai.backward p else Vagrai.forward p).outs.length ≤ 24 := by
          split
          · exact ⟨(back_bounds hp).1, (back_bounds hp).2.2⟩
          · exact ⟨(fwd_bounds hp).1, (fwd_bounds hp).2.2⟩
        obtain ⟨c1, c2, c3, c4⟩ := trimIf_bounds (t := t) o.1
        exact ⟨c1, ⟨by omega, by omega, by omega⟩⟩
    · rw [if_neg ht] at h; cases h
  · rw [if_neg hw] at h; cases h
theorem held_start : Held ⟨0, [], []⟩ := ⟨⟨CodeOk.nil _, fun o ho => by simp at ho⟩, ⟨by decide, by decide, by decide⟩⟩
theorem held_asked {p : Prog} {k : Vagrai.Call} {x : Vagrai.R (List Int)} {u : State} {l : List Int} (hp : Held p) (h : (do let l ← x; .ok ((⟨p⟩ : State), l) : Vagrai.R (State × List Int)) = .ok (u, l)) : Held u.prog := by
  cases x with
  | error e => cases h
  | ok a => cases h; exact hp
theorem held_out {p : Prog} {k : Vagrai.Call} {u : State} {l : List Int} (hp : Held p) (h : out ⟨p⟩ k = .ok (u, l)) : Held u.prog := by
  cases k with
  | code n a b =>
    rw [out_code] at h
    cases e : readP n a b with
    | error z => rw [e] at h; cases h
    | ok q => rw [e] at h; cases h; exact held_read e
  | adopt w t =>
    rw [out_adopt] at h
    cases e : adoptOf w t p with
    | error z => rw [e] at h; cases h
    | ok q => rw [e] at h; cases h; exact held_adopt hp e
  | back t => exact held_asked (k := .back t) hp h
  | ahead t => exact held_asked (k := .ahead t) hp h
  | run x => exact held_asked (k := .run x) hp h
  | gradient x w => exact held_asked (k := .gradient x w) hp h
  | change x d => exact held_asked (k := .change x d) hp h
  | ops => exact held_asked (k := .ops) hp h
  | text w => exact held_asked (k := .text w) hp h
  | lines => exact held_asked (k := .lines) hp h
  | needed => exact held_asked (k := .needed) hp h
end Lc
set_option Elab.async false
set_option linter.all false
set_option maxRecDepth 100000
set_option maxHeartbeats 4000000
namespace Lc
open PySem PySem.Spec PyProof.Rows L2
open Vagraa (Frac frac)
open VagraLine (Line)
open Vagrai (Prog Work)
variable {P : Program} {w : World} {K : PySem.W.Frag} {mg : Str → Option Value} {base : Heap} {D : Ad}
/-- rows of whole numbers, each at its address -/
def RowsAt (K : PySem.W.Frag) (H : Hp) (as : List Addr) (xs : List (List Int)) : Prop := as.length = xs.length ∧ ∀ (i : Nat) (a : Addr) (x : List Int), as[i]? = some a → xs[i]? = some x → SqL K H a (x.map V.int)
theorem rows1 {K : PySem.W.Frag} {H : Hp} {as : List Addr} {a : List Int} (h : RowsAt K H as [a]) : ∃ p, as = [p] ∧ SqL K H p (a.map V.int) := by
  obtain ⟨l, r⟩ := h
  match as, l, r with
  | [p], _, r => exact ⟨p, rfl, r 0 p a rfl rfl⟩
theorem rows2 {K : PySem.W.Frag} {H : Hp} {as : List Addr} {a b : List Int} (h : RowsAt K H as [a, b]) : ∃ p q, as = [p, q] ∧ SqL K H p (a.map V.int) ∧ SqL K H q (b.map V.int) := by
  obtain ⟨l, r⟩ := h
  match as, l, r with
  | [p, q], _, r => exact ⟨p, q, rfl, r 0 p a rfl rfl, r 1 q b rfl rfl⟩
theorem out_textOf (p : Prog) (t : Int) : Vagrai.out ⟨p⟩ (.text t) = match textOf p t with
    | .error e => .error e
    | .ok l => .ok (⟨p⟩, l) := by
  rw [out_text]
  unfold textOf
  split
  · split <;> rfl
  · rfl
def spAC (K : PySem.W.Frag) (D : Ad) : Sp := fun vs H Q E => ∃ (h na ra : Addr) (p : Int) (ns : List Int) (as : List Addr) (xs : List (List Int)) (pr : Prog) (k : Vagrai.Call), vs = [.ref h, .int p, .ref na, .ref ra] ∧ HeldAt D H h pr ∧ Held pr ∧
  SqL K H na (ns.map V.int) ∧ SqL K H ra (as.map V.ref) ∧ RowsAt K H as xs ∧ Asked p ns xs k ∧ (∀ n, Vagrai.out ⟨pr⟩ k = .error n → RaiseN K D.c_Refusal H E n) ∧ (∀ u l, Vagrai.out ⟨pr⟩ k = .ok (u, l) → GiveA D H Q h u.prog l)
theorem ok_Held_answer_call (T : Txt K mg D) : FnOk P w K mg base (L2.CX P w) 8 D.a_Held_answer_call D.d_Held_answer_call P_Held_answer_call (spAC K D) := by
  have G_Held_take_code := ok_Held_take_code (P := P) (w := w) (base := base) T
  have G_Held_tell_back := ok_Held_tell_back (P := P) (w := w) (base := base) T
  have G_Held_tell_ahead := ok_Held_tell_ahead (P := P) (w := w) (base := base) T
  have G_Held_adopt_derivative := ok_Held_adopt_derivative (P := P) (w := w) (base := base) T
  have G_Held_run_held := ok_Held_run_held (P := P) (w := w) (base := base) T
  have G_Held_run_gradient := ok_Held_run_gradient (P := P) (w := w) (base := base) T
  have G_Held_run_change := ok_Held_run_change (P := P) (w := w) (base := base) T
  have G_Held_tell_ops := ok_Held_tell_ops (P := P) (w := w) (base := base) T
  have G_Held_tell_text := ok_Held_tell_text (P := P) (w := w) (base := base) T
  have G_told := ok_told (P := P) (w := w) (base := base) T
  have G_Held_tell_needed := ok_Held_tell_needed (P := P) (w := w) (base := base) T
  obtain ⟨t_CODE, v_CODE⟩ := T.v_CODE
  obtain ⟨t_BACK, v_BACK⟩ := T.v_BACK
  obtain ⟨t_AHEAD, v_AHEAD⟩ := T.v_AHEAD
  obtain ⟨t_ADOPT, v_ADOPT⟩ := T.v_ADOPT
  obtain ⟨t_RUN, v_RUN⟩ := T.v_RUN
  obtain ⟨t_GRADIENT, v_GRADIENT⟩ := T.v_GRADIENT
  obtain ⟨t_CHANGE, v_CHANGE⟩ := T.v_CHANGE
  obtain ⟨t_OPS, v_OPS⟩ := T.v_OPS
  obtain ⟨t_TEXT, v_TEXT⟩ := T.v_TEXT
  obtain ⟨t_LINES, v_LINES⟩ := T.v_LINES
  refine T.F_Held_answer_call.okX sc_Held_answer_call (fun vs H Q E h => by first | (obtain ⟨rfl, _⟩ := h; rfl) | (obtain ⟨_, rfl, _⟩ := h; rfl) | (obtain ⟨_, _, rfl, _⟩ := h; rfl) | (obtain ⟨_, _, _, rfl, _⟩ := h; rfl) | (obtain ⟨_, _, _, _, rfl, _⟩ := h; rfl) | (obtain ⟨_, _, _, _, _, rfl, _⟩ := h; rfl) | (obtain ⟨_, _, _, _, _, _, rfl, _⟩ := h; rfl) | (obtain ⟨_, _, _, _, _, _, _, rfl, _⟩ := h; rfl) | (obtain ⟨_, _, _, _, _, _, _, _, rfl, _⟩ := h; rfl) | (obtain ⟨_, _, _, _, _, _, _, _, _, rfl, _⟩ := h; rfl) | (obtain ⟨_, _, _, _, _, _, _, _, _, _, rfl, _⟩ := h; rfl) | (obtain ⟨_, _, _, _, _, _, _, _, _, _, _, rfl, _⟩ := h; rfl) | (obtain ⟨_, _, _, _, _, _, _, _, _, _, _, _, rfl, _⟩ := h; rfl)) (fun cdv A outer s H vs Q E hr h => ?_)
  refine ⟨_, (pss_cons (ps_if (pt_cmpR op_eq (pv 1) (pe_glob (v := .int 0) rfl v_CODE ⟨_, rfl⟩) (nomark _)) (pss_one (ps_ret (pe_meth (pv 0) T.cl_Held T.m_Held_take_code G_Held_take_code (hr.mono (by decide)) (b_Held_take_code T) .nil (passes_call (takes_of rfl rfl rfl rfl) (fun _ _ _ _ z => z)) (pa_cons (pe_ix ix_list (pv 2) pe_int (fun _ _ => rfl)) (pa_cons (pe_ix ix_list (pv 3) pe_int (fun _ _ => rfl)) (pa_cons (pe_ix ix_list (pv 3) pe_int (fun _ _ => rfl)) pa_nil)))))) pss_nil)
    (pss_cons (ps_if (pt_cmpR op_eq (pv 1) (pe_glob (v := .int 1) rfl v_BACK ⟨_, rfl⟩) (nomark _)) (pss_one (ps_ret (pe_meth (pv 0) T.cl_Held T.m_Held_tell_back G_Held_tell_back (hr.mono (by decide)) (b_Held_tell_back T) .nil (passes_call (takes_of rfl rfl rfl rfl) (fun _ _ _ _ z => z)) (pa_cons (pe_ix ix_list (pv 2) pe_int (fun _ _ => rfl)) pa_nil)))) pss_nil)
    (pss_cons (ps_if (pt_cmpR op_eq (pv 1) (pe_glob (v := .int 2) rfl v_AHEAD ⟨_, rfl⟩) (nomark _)) (pss_one (ps_ret (pe_meth (pv 0) T.cl_Held T.m_Held_tell_ahead G_Held_tell_ahead (hr.mono (by decide)) (b_Held_tell_ahead T) .nil (passes_call (takes_of rfl rfl rfl rfl) (fun _ _ _ _ z => z)) (pa_cons (pe_ix ix_list (pv 2) pe_int (fun _ _ => rfl)) pa_nil)))) pss_nil)
    (pss_cons (ps_if (pt_cmpR op_eq (pv 1) (pe_glob (v := .int 3) rfl v_ADOPT ⟨_, rfl⟩) (nomark _)) (pss_one (ps_ret (pe_meth (pv 0) T.cl_Held T.m_Held_adopt_derivative G_Held_adopt_derivative (hr.mono (by decide)) (b_Held_adopt_derivative T) .nil (passes_call (takes_of rfl rfl rfl rfl) (fun _ _ _ _ z => z)) (pa_cons (pe_ix ix_list (pv 2) pe_int (fun _ _ => rfl)) (pa_cons (pe_ix ix_list (pv 2) pe_int (fun _ _ => rfl)) pa_nil))))) pss_nil)
    (pss_cons (ps_if (pt_cmpR op_eq (pv 1) (pe_glob (v := .int 4) rfl v_RUN ⟨_, rfl⟩) (nomark _)) (pss_one (ps_ret (pe_meth (pv 0) T.cl_Held T.m_Held_run_held G_Held_run_held (hr.mono (by decide)) (b_Held_run_held T) .nil (passes_call (takes_of rfl rfl rfl rfl) (fun _ _ _ _ z => z)) (pa_cons (pe_ix ix_list (pv 3) pe_int (fun _ _ => rfl)) pa_nil)))) pss_nil)
    (pss_cons (ps_if (pt_cmpR op_eq (pv 1) (pe_glob (v := .int 5) rfl v_GRADIENT ⟨_, rfl⟩) (nomark _)) (pss_one (ps_ret (pe_meth (pv 0) T.cl_Held T.m_Held_run_gradient G_Held_run_gradient (hr.mono (by decide)) (b_Held_run_gradient T) .nil (passes_call (takes_of rfl rfl rfl rfl) (fun _ _ _ _ z => z)) (pa_cons (pe_ix ix_list (pv 3) pe_int (fun _ _ => rfl)) (pa_cons (pe_ix ix_list (pv 3) pe_int (fun _ _ => rfl)) pa_nil))))) pss_nil)
    (pss_cons (ps_if (pt_cmpR op_eq (pv 1) (pe_glob (v := .int 6) rfl v_CHANGE ⟨_, rfl⟩) (nomark _)) (pss_one (ps_ret (pe_meth (pv 0) T.cl_Held T.m_Held_run_change G_Held_run_change (hr.mono (by decide)) (b_Held_run_change T) .nil (passes_call (takes_of rfl rfl rfl rfl) (fun _ _ _ _ z => z)) (pa_cons (pe_ix ix_list (pv 3) pe_int (fun _ _ => rfl)) (pa_cons (pe_ix ix_list (pv 3) pe_int (fun _ _ => rfl)) pa_nil))))) pss_nil)
    (pss_cons (ps_if (pt_cmpR op_eq (pv 1) (pe_glob (v := .int 7) rfl v_OPS ⟨_, rfl⟩) (nomark _)) (pss_one (ps_ret (pe_meth0 (pv 0) T.cl_Held T.m_Held_tell_ops G_Held_tell_ops (hr.mono (by decide)) (b_Held_tell_ops T) .nil pass0))) pss_nil)
    (pss_cons (ps_if (pt_cmpR op_eq (pv 1) (pe_glob (v := .int 8) rfl v_TEXT ⟨_, rfl⟩) (nomark _)) (pss_one (ps_ret (pe_meth (pv 0) T.cl_Held T.m_Held_tell_text G_Held_tell_text (hr.mono (by decide)) (b_Held_tell_text T) .nil (passes_call (takes_of rfl rfl rfl rfl) (fun _ _ _ _ z => z)) (pa_cons (pe_ix ix_list (pv 2) pe_int (fun _ _ => rfl)) pa_nil)))) pss_nil)
    (pss_cons (ps_if (pt_cmpR op_eq (pv 1) (pe_glob (v := .int 9) rfl v_LINES ⟨_, rfl⟩) (nomark _)) (pss_one (ps_ret (pe_op op_cat (pe_lst (pa_cons (pe_fld (pe_fld (pv 0) rfl) rfl) pa_nil)) (pe_call G_told (hr.mono (by decide)) rfl T.g_told T.F_told.kp (b_told T) .nil pass0 (pa_cons (pe_fld (pv 0) rfl) pa_nil))))) pss_nil)
    (pss_one (ps_ret (pe_meth0 (pv 0) T.cl_Held T.m_Held_tell_needed G_Held_tell_needed (hr.mono (by decide)) (b_Held_tell_needed T) .nil pass0))))))))))))), ?_⟩
  obtain ⟨h, na, ra, p, ns, as, xs, pr, k, rfl, hh, hp, hn, hr0, hx, ask, kr, ks⟩ := h
  obtain ⟨dx, pa, ho, hpa⟩ := hh
  cases ask with
  | @code n a b c1 c2 c3 =>
    obtain ⟨q1, q2, rfl, x1, x2⟩ := rows2 hx
    refine ⟨_, rfl, rfl, _, rfl, ifT rfl ?_⟩
    refine ⟨_, rfl, h, dx, _, rfl, ho, rfl, _, rfl, na, _, (0 : Int), .int n, rfl, rfl, hn, rfl, _, rfl, ra, _, (0 : Int), .ref q1, rfl, rfl, hr0, rfl, _, rfl, ra, _, (1 : Int), .ref q2, rfl, rfl, hr0, rfl, ?_⟩
    exact ⟨h, q1, q2, n, a, b, pr, rfl, ⟨dx, pa, ho, hpa⟩, x1, x2, by have := c2.1; omega, c2.2, fun e he => kr e (by rw [out_code, he]), fun q hq => ks _ _ (by rw [out_code, hq])⟩
  | @back t c1 =>
    refine ⟨_, rfl, rfl, _, rfl, ifF rfl ?_⟩
    refine ⟨_, rfl, rfl, _, rfl, ifT rfl ?_⟩
    refine ⟨_, rfl, h, dx, _, rfl, ho, rfl, _, rfl, na, _, (0 : Int), .int t, rfl, rfl, hn, rfl, ?_⟩
    exact ⟨h, t, pr, rfl, ⟨dx, pa, ho, hpa⟩, hp, fun c => kr _ (by rw [out_back, if_neg c]), fun c => ks _ _ (by rw [out_back, if_pos c])⟩
  | @ahead t c1 =>
    refine ⟨_, rfl, rfl, _, rfl, ifF rfl ?_⟩
    refine ⟨_, rfl, rfl, _, rfl, ifF rfl ?_⟩
    refine ⟨_, rfl, rfl, _, rfl, ifT rfl ?_⟩
    refine ⟨_, rfl, h, dx, _, rfl, ho, rfl, _, rfl, na, _, (0 : Int), .int t, rfl, rfl, hn, rfl, ?_⟩
    exact ⟨h, t, pr, rfl, ⟨dx, pa, ho, hpa⟩, hp, fun c => kr _ (by rw [out_ahead, if_neg c]), fun c => ks _ _ (by rw [out_ahead, if_pos c])⟩
  | @adopt u t c1 c2 =>
    refine ⟨_, rfl, rfl, _, rfl, ifF rfl ?_⟩
    refine ⟨_, rfl, rfl, _, rfl, ifF rfl ?_⟩
    refine ⟨_, rfl, rfl, _, rfl, ifF rfl ?_⟩
    refine ⟨_, rfl, rfl, _, rfl, ifT rfl ?_⟩
    refine ⟨_, rfl, h, dx, _, rfl, ho, rfl, _, rfl, na, _, (0 : Int), .int u, rfl, rfl, hn, rfl, _, rfl, na, _, (1 : Int), .int t, rfl, rfl, hn, rfl, ?_⟩
    exact ⟨h, u, t, pr, rfl, ⟨dx, pa, ho, hpa⟩, hp, fun e he => kr e (by rw [out_adopt, he]), fun q hq => ks _ _ (by rw [out_adopt, hq])⟩
  | @run a c1 =>
    obtain ⟨q1, rfl, x1⟩ := rows1 hx
    refine ⟨_, rfl, rfl, _, rfl, ifF rfl ?_⟩
    refine ⟨_, rfl, rfl, _, rfl, ifF rfl ?_⟩
    refine ⟨_, rfl, rfl, _, rfl, ifF rfl ?_⟩
    refine ⟨_, rfl, rfl, _, rfl, ifF rfl ?_⟩
    refine ⟨_, rfl, rfl, _, rfl, ifT rfl ?_⟩
    refine ⟨_, rfl, h, dx, _, rfl, ho, rfl, _, rfl, ra, _, (0 : Int), .ref q1, rfl, rfl, hr0, rfl, ?_⟩
    exact ⟨h, q1, a, pr, rfl, ⟨dx, pa, ho, hpa⟩, hp, x1, by have := c1.1; omega, c1.2, fun e he => kr e (by rw [out_run, he]), fun q hq => ks _ _ (by rw [out_run, hq])⟩
  | @gradient a b c1 c2 =>
    obtain ⟨q1, q2, rfl, x1, x2⟩ := rows2 hx
    refine ⟨_, rfl, rfl, _, rfl, ifF rfl ?_⟩
    refine ⟨_, rfl, rfl, _, rfl, ifF rfl ?_⟩
    refine ⟨_, rfl, rfl, _, rfl, ifF rfl ?_⟩
    refine ⟨_, rfl, rfl, _, rfl, ifF rfl ?_⟩
    refine ⟨_, rfl, rfl, _, rfl, ifF rfl ?_⟩
    refine ⟨_, rfl, rfl, _, rfl, ifT rfl ?_⟩
    refine ⟨_, rfl, h, dx, _, rfl, ho, rfl, _, rfl, ra, _, (0 : Int), .ref q1, rfl, rfl, hr0, rfl, _, rfl, ra, _, (1 : Int), .ref q2, rfl, rfl, hr0, rfl, ?_⟩
    exact ⟨h, q1, q2, a, b, pr, rfl, ⟨dx, pa, ho, hpa⟩, hp, x1, by have := c1.1; omega, c1.2, x2, by have := c2.1; omega, c2.2, fun e he => kr e (by rw [out_gradient, he]), fun q hq => ks _ _ (by rw [out_gradient, hq])⟩
  | @change a b c1 c2 =>
    obtain ⟨q1, q2, rfl, x1, x2⟩ := rows2 hx
    refine ⟨_, rfl, rfl, _, rfl, ifF rfl ?_⟩
    refine ⟨_, rfl, rfl, _, rfl, ifF rfl ?_⟩
    refine ⟨_, rfl, rfl, _, rfl, ifF rfl ?_⟩
    refine ⟨_, rfl, rfl, _, rfl, ifF rfl ?_⟩
    refine ⟨_, rfl, rfl, _, rfl, ifF rfl ?_⟩
    refine ⟨_, rfl, rfl, _, rfl, ifF rfl ?_⟩
    refine ⟨_, rfl, rfl, _, rfl, ifT rfl ?_⟩
    refine ⟨_, rfl, h, dx, _, rfl, ho, rfl, _, rfl, ra, _, (0 : Int), .ref q1, rfl, rfl, hr0, rfl, _, rfl, ra, _, (1 : Int), .ref q2, rfl, rfl, hr0, rfl, ?_⟩
    exact ⟨h, q1, q2, a, b, pr, rfl, ⟨dx, pa, ho, hpa⟩, hp, x1, by have := c1.1; omega, c1.2, x2, by have := c2.1; omega, c2.2, fun e he => kr e (by rw [out_change, he]), fun q hq => ks _ _ (by rw [out_change, hq])⟩
  | ops =>
    refine ⟨_, rfl, rfl, _, rfl, ifF rfl ?_⟩
    refine ⟨_, rfl, rfl, _, rfl, ifF rfl ?_⟩
    refine ⟨_, rfl, rfl, _, rfl, ifF rfl ?_⟩
    refine ⟨_, rfl, rfl, _, rfl, ifF rfl ?_⟩
    refine ⟨_, rfl, rfl, _, rfl, ifF rfl ?_⟩
    refine ⟨_, rfl, rfl, _, rfl, ifF rfl ?_⟩
    refine ⟨_, rfl, rfl, _, rfl, ifF rfl ?_⟩
    refine ⟨_, rfl, rfl, _, rfl, ifT rfl ?_⟩
    refine ⟨_, rfl, h, dx, _, rfl, ho, rfl, ?_⟩
    exact ⟨h, pr, rfl, ⟨dx, pa, ho, hpa⟩, hp, ks _ _ (out_ops pr)⟩
  | @text t c1 =>
    refine ⟨_, rfl, rfl, _, rfl, ifF rfl ?_⟩
    refine ⟨_, rfl, rfl, _, rfl, ifF rfl ?_⟩
    refine ⟨_, rfl, rfl, _, rfl, ifF rfl ?_⟩
    refine ⟨_, rfl, rfl, _, rfl, ifF rfl ?_⟩
    refine ⟨_, rfl, rfl, _, rfl, ifF rfl ?_⟩
    refine ⟨_, rfl, rfl, _, rfl, ifF rfl ?_⟩
    refine ⟨_, rfl, rfl, _, rfl, ifF rfl ?_⟩
    refine ⟨_, rfl, rfl, _, rfl, ifF rfl ?_⟩
    refine ⟨_, rfl, rfl, _, rfl, ifT rfl ?_⟩
    refine ⟨_, rfl, h, dx, _, rfl, ho, rfl, _, rfl, na, _, (0 : Int), .int t, rfl, rfl, hn, rfl, ?_⟩
    exact ⟨h, t, pr, rfl, ⟨dx, pa, ho, hpa⟩, hp, fun e he => kr e (by rw [out_textOf, he]), fun q hq => ks _ _ (by rw [out_textOf, hq])⟩
  | lines =>
    refine ⟨_, rfl, rfl, _, rfl, ifF rfl ?_⟩
    refine ⟨_, rfl, rfl, _, rfl, ifF rfl ?_⟩
    refine ⟨_, rfl, rfl, _, rfl, ifF rfl ?_⟩
    refine ⟨_, rfl, rfl, _, rfl, ifF rfl ?_⟩
    refine ⟨_, rfl, rfl, _, rfl, ifF rfl ?_⟩
    refine ⟨_, rfl, rfl, _, rfl, ifF rfl ?_⟩
    refine ⟨_, rfl, rfl, _, rfl, ifF rfl ?_⟩
    refine ⟨_, rfl, rfl, _, rfl, ifF rfl ?_⟩
    refine ⟨_, rfl, rfl, _, rfl, ifF rfl ?_⟩
    refine ⟨_, rfl, rfl, _, rfl, ifT rfl ?_⟩
    obtain ⟨dp, pl, po, ps, X⟩ := hpa
    have zl : sizeLine = 16777216 := rfl
    have m2 := hp.md.code
    have m3 := hp.md.outs
    refine ⟨_, rfl, h, _, dx, _, _, rfl, ho, T.cl_Held, T.n_Held_program, rfl, pa, _, dp, _, _, rfl, X.obj, T.cl_Program, T.n_Program_inputs, lk_inputs _ _ _, (by show 1 ≤ sizeLine; omega), fun q1 n1 => ?_⟩
    have s1 := same_upd (o := .lst [V.int (pr.inputs : Int)]) n1
    refine ⟨_, rfl, h, _, dx, _, _, rfl, s1 _ _ ho, T.cl_Held, T.n_Held_program, rfl, ?_⟩
    refine ⟨pa, pr, rfl, ⟨dp, pl, po, ps, X.same s1⟩, by omega, fun H2 q2 s2 n2 h2 => ?_⟩
    have tl := told_all_len pr.code
    have pl2 : (Vagrai.progTold pr).length ≤ 10000 := by
      simp [Vagrai.progTold, Vagrai.listed]
      omega
    refine ⟨q1, q2, _, _, rfl, rfl, s2 _ _ upd_same, h2, by simp; omega, fun q3 n3 => ?_⟩
    refine (told_give (ks _ _ (out_lines pr)) ⟨dx, pa, ho, dp, pl, po, ps, X⟩ (s1.trans s2)).now ?_ n3
    simp
  | needed =>
    refine ⟨_, rfl, rfl, _, rfl, ifF rfl ?_⟩
    refine ⟨_, rfl, rfl, _, rfl, ifF rfl ?_⟩
    refine ⟨_, rfl, rfl, _, rfl, ifF rfl ?_⟩
    refine ⟨_, rfl, rfl, _, rfl, ifF rfl ?_⟩
    refine ⟨_, rfl, rfl, _, rfl, ifF rfl ?_⟩
    refine ⟨_, rfl, rfl, _, rfl, ifF rfl ?_⟩
    refine ⟨_, rfl, rfl, _, rfl, ifF rfl ?_⟩
    refine ⟨_, rfl, rfl, _, rfl, ifF rfl ?_⟩
    refine ⟨_, rfl, rfl, _, rfl, ifF rfl ?_⟩
    refine ⟨_, rfl, rfl, _, rfl, ifF rfl ?_⟩
    refine ⟨_, rfl, h, dx, _, rfl, ho, rfl, ?_⟩
    exact ⟨h, pr, rfl, ⟨dx, pa, ho, hpa⟩, hp, ks _ _ (out_needed pr)⟩
end Lc
set_option Elab.async false
set_option linter.all false
set_option maxRecDepth 100000
set_option maxHeartbeats 4000000
namespace Lc
open PySem PySem.Spec PyProof.Rows L2
open Vagraa (Frac frac)
open VagraLine (Line)
open Vagrai (Prog Work)
variable {P : Program} {w : World} {K : PySem.W.Frag} {mg : Str → Option Value} {base : Heap} {D : Ad}
theorem get_drop {l r : List Int} {i : Nat} {p : Int} (h : l.drop i = p :: r) : l[i]? = some p ∧ l.drop (i + 1) = r := by
  constructor
  · have e : (l.drop i)[0]? = some p := by rw [h]; rfl
    rw [List.getElem?_drop] at e
    exact e
  · have e : (l.drop i).drop 1 = r := by rw [h]; rfl
    rw [List.drop_drop] at e
    exact e
theorem sqL_but2 {K : PySem.W.Frag} {H H' : Hp} {a t R : Addr} {xs : List V} {C dx : Addr} {fs : List (Str × V)} (ht : H t = some (.ins C dx fs)) (hR : H R = none) (k : But2 H H' t R) (h : SqL K H a xs) : SqL K H' a xs := by
  rcases h with (h | ⟨o, h⟩) | h
  · exact .inl (.inl (k _ _ h (ne_of h ht nofun) (ne_of_none h hR)))
  · exact .inl (.inr ⟨o, k _ _ h (ne_of h ht nofun) (ne_of_none h hR)⟩)
  · exact .inr h
theorem shape_at (T : Txt K mg D) {p : Int} {n kk : Nat} (h : PyVagrai.shape p = some (n, kk)) :
    ∃ sa : Addr, atI [V.ref D.k_SHAPES_0, V.ref D.k_SHAPES_1, V.ref D.k_SHAPES_2, V.ref D.k_SHAPES_3, V.ref D.k_SHAPES_4, V.ref D.k_SHAPES_5, V.ref D.k_SHAPES_6, V.ref D.k_SHAPES_7, V.ref D.k_SHAPES_8, V.ref D.k_SHAPES_9, V.ref D.k_SHAPES_10] p = some (V.ref sa) ∧ ∀ H : Hp, SqT K H sa [.int (n : Int), .int (kk : Int)] := by
  unfold PyVagrai.shape at h
  repeat' split at h
  all_goals first | cases h | skip
  all_goals subst_vars
  · exact ⟨_, rfl, T.t_SHAPES_0⟩
  · exact ⟨_, rfl, T.t_SHAPES_1⟩
  · exact ⟨_, rfl, T.t_SHAPES_2⟩
  · exact ⟨_, rfl, T.t_SHAPES_3⟩
  · exact ⟨_, rfl, T.t_SHAPES_4⟩
  · exact ⟨_, rfl, T.t_SHAPES_5⟩
  · exact ⟨_, rfl, T.t_SHAPES_6⟩
  · exact ⟨_, rfl, T.t_SHAPES_7⟩
  · exact ⟨_, rfl, T.t_SHAPES_8⟩
  · exact ⟨_, rfl, T.t_SHAPES_9⟩
  · exact ⟨_, rfl, T.t_SHAPES_10⟩
theorem small_shape {p : Int} {n kk : Nat} (h : PyVagrai.shape p = some (n, kk)) : n ≤ 2 ∧ kk ≤ 2 := by
  unfold PyVagrai.shape at h
  repeat' split at h
  all_goals first | (cases h; decide) | cases h
/-- rows of whole numbers, each a list -/
def RowsL (H : Hp) (as : List Addr) (xs : List (List Int)) : Prop := as.length = xs.length ∧ ∀ (i : Nat) (a : Addr) (x : List Int), as[i]? = some a → xs[i]? = some x → H a = some (.lst (x.map V.int))
theorem RowsL.at_ {K : PySem.W.Frag} {H : Hp} {as : List Addr} {xs : List (List Int)} (h : RowsL H as xs) : RowsAt K H as xs := ⟨h.1, fun i a x e1 e2 => SqL.of (h.2 i a x e1 e2)⟩
theorem RowsL.keep {H H' : Hp} {as : List Addr} {xs : List (List Int)} (h : RowsL H as xs) (k : ∀ a ∈ as, ∀ ys, H a = some (.lst ys) → H' a = some (.lst ys)) : RowsL H' as xs := ⟨h.1, fun i a x e1 e2 => k a (List.mem_of_getElem? e1) _ (h.2 i a x e1 e2)⟩
theorem RowsL.snoc {H : Hp} {as : List Addr} {xs : List (List Int)} {q : Addr} {y : List Int} (h : RowsL H as xs) (hq : H q = some (.lst (y.map V.int))) : RowsL H (as ++ [q]) (xs ++ [y]) := by
  refine ⟨by rw [List.length_append, List.length_append, h.1]; rfl, fun i a x e1 e2 => ?_⟩
  rcases Nat.lt_or_ge i as.length with lt | ge
  · rw [List.getElem?_append_left lt] at e1
    rw [List.getElem?_append_left (by rw [← h.1]; exact lt)] at e2
    exact h.2 i a x e1 e2
  · rw [List.getElem?_append_right ge] at e1
    rw [List.getElem?_append_right (by rw [← h.1]; exact ge), ← h.1] at e2
    cases z : i - as.length with
    | zero => rw [z] at e1 e2; cases e1; cases e2; exact hq
    | succ m => rw [z] at e1; cases e1
def spNext (K : PySem.W.Frag) (D : Ad) : Sp := fun vs H Q _ => ∃ (h t src : Addr) (i : Nat) (l : List Int) (pr : Prog) (c : List (List Int)) (r : List Int), vs = [.ref h, .ref t] ∧ HeldAt D H h pr ∧ Held pr ∧ TakerAt D H t src i ∧ SqL K H src (l.map V.int) ∧
  PyFlat.call PyVagrai.shape (l.drop i) = some (c, r) ∧ VagraiNeutral.asked1 c = true ∧
  ∀ (H' : Hp) (q : Addr) (j : Nat), But2 H H' h t → HeldAt D H' h (VagraiNeutral.step ⟨pr⟩ c).1.prog → TakerAt D H' t src j → l.drop j = r → H q = none → H' q = some (.lst ((VagraiNeutral.step ⟨pr⟩ c).2.map V.int)) → Q (.ref q) H'
theorem ok_answer_next (T : Txt K mg D) : FnOk P w K mg base CX0 9 D.a_answer_next D.d_answer_next P_answer_next (spNext K D) := by
  have G_Taker_take_number := ok_Taker_take_number (P := P) (w := w) (base := base) T
  have G_Taker_take := ok_Taker_take (P := P) (w := w) (base := base) T
  have G_Taker_take_row := ok_Taker_take_row (P := P) (w := w) (base := base) T
  have G_Held_answer_call := ok_Held_answer_call (P := P) (w := w) (base := base) T
  refine T.F_answer_next.ok sc_answer_next (fun vs H Q E h => by first | (obtain ⟨rfl, _⟩ := h; rfl) | (obtain ⟨_, rfl, _⟩ := h; rfl) | (obtain ⟨_, _, rfl, _⟩ := h; rfl) | (obtain ⟨_, _, _, rfl, _⟩ := h; rfl) | (obtain ⟨_, _, _, _, rfl, _⟩ := h; rfl) | (obtain ⟨_, _, _, _, _, rfl, _⟩ := h; rfl) | (obtain ⟨_, _, _, _, _, _, rfl, _⟩ := h; rfl) | (obtain ⟨_, _, _, _, _, _, _, rfl, _⟩ := h; rfl) | (obtain ⟨_, _, _, _, _, _, _, _, rfl, _⟩ := h; rfl) | (obtain ⟨_, _, _, _, _, _, _, _, _, rfl, _⟩ := h; rfl) | (obtain ⟨_, _, _, _, _, _, _, _, _, _, rfl, _⟩ := h; rfl) | (obtain ⟨_, _, _, _, _, _, _, _, _, _, _, rfl, _⟩ := h; rfl) | (obtain ⟨_, _, _, _, _, _, _, _, _, _, _, _, rfl, _⟩ := h; rfl)) (fun cdv A outer s H vs Q E hr h => ?_)
  refine ⟨_, (pss_cons (ps_set (i := 2) sc_answer_next.nd rfl (.inl rfl) (pe_meth0 (pv 1) T.cl_Taker T.m_Taker_take_number G_Taker_take_number (hr.mono (by decide)) (b_Taker_take_number T) .nil pass0))
    (pss_cons (ps_set (i := 3) sc_answer_next.nd rfl (.inl rfl) (pe_ix ix_tup (pe_glob (v := .ref D.k_SHAPES) rfl T.v_SHAPES rfl) (pv 2) (fun _ _ => rfl)))
    (pss_cons (ps_set (i := 4) sc_answer_next.nd rfl (.inl rfl) (pe_meth (pv 1) T.cl_Taker T.m_Taker_take G_Taker_take (hr.mono (by decide)) (b_Taker_take T) .nil pass0 (pa_cons (pe_ix ix_tup (pv 3) pe_int (fun _ _ => rfl)) pa_nil)))
    (pss_cons (ps_setLc (i := 5) (own := [("k", 7)]) (g := gName 7) (tt := tYes) rfl sc_answer_next.nd rfl rfl (sw_true rfl rfl rfl (by decide +kernel)) (pi_range1 rfl T.f_range (pa_cons (pe_ix ix_tup (pv 3) pe_int (fun _ _ => rfl)) pa_nil)) (blkOk_by (own := [("k", 7)]) (N := N_answer_next) (sc := defScope s_answer_next) (by decide +kernel)) (fun _ _ _ _ _ => pg_name (i := 7) sc_answer_next.nd rfl (Or.inl rfl)) (fun _ _ _ _ _ => pts_nil) (fun _ _ _ _ _ => (pe_meth0 (pv 1) T.cl_Taker T.m_Taker_take_row G_Taker_take_row (hr.mono (by decide)) (b_Taker_take_row T) .nil pass0)))
    (pss_one (ps_try_as (i := 6) (Wout := fun _ _ _ _ => False) rfl rfl sc_answer_next.nd rfl rfl ⟨rfl, by decide, Or.inl T.g_Refusal⟩ takes0
      (fun W pn xe tk _ => pss_one (ps_ret (pe_methT (pv 0) T.cl_Held T.m_Held_answer_call G_Held_answer_call (hr.mono (by decide)) (b_Held_answer_call T) (fun σ => passAt tk σ) (pa_cons (pv 2) (pa_cons (pv 4) (pa_cons (pv 5) pa_nil))))))
      (fun a oe cls d pn hz hf => (pss_one (ps_ret (pe_lst (pa_cons (pe_numF (S := D.c_Refusal) hz hf (pv 6)) pa_nil))))))))))), ?_⟩
  obtain ⟨h, t, src, i, l, pr, c, r, rfl, hh, hp, ht, hs, hc, ha, k⟩ := h
  obtain ⟨p, r0, n, kk, xs, hl, hsh, hn, hr0, rfl⟩ := call_inv hc
  obtain ⟨kc, hk, ask⟩ := asked_of ha
  obtain ⟨hi, hd1⟩ := get_drop hl
  obtain ⟨sa, sa1, sa2⟩ := shape_at T hsh
  obtain ⟨sm1, sm2⟩ := small_shape hsh
  obtain ⟨dh, pa, ho, hpa⟩ := hh
  obtain ⟨dt, hto⟩ := ht
  have nht : h ≠ t := ne_of ho hto (by intro z; injection z with _ _ z; cases z)
  -- call = taker.take_number(); shape = SHAPES[call]
  refine ⟨_, rfl, t, dt, _, rfl, hto, rfl, ?_⟩
  refine ⟨t, src, i, l, p, rfl, ⟨dt, hto⟩, hs, hi, fun H1 b1 t1 => ?_⟩
  have hs1 := sqL_but hto b1 hs
  have ho1 := b1 _ _ ho nht
  refine ⟨_, rfl, D.k_SHAPES, _, p, .ref sa, rfl, rfl, T.t_SHAPES H1, sa1, ?_⟩
  -- numbers = taker.take(shape[0])
  obtain ⟨dt1, hto1⟩ := t1
  refine ⟨_, rfl, t, dt1, _, rfl, hto1, rfl, _, rfl, sa, _, (0 : Int), .int (n : Int), rfl, rfl, sa2 H1, rfl, ?_⟩
  refine ⟨t, src, i + 1, n, l, rfl, ⟨dt1, hto1⟩, hs1, fun H2 na b2 t2 nna hna => ?_⟩
  have hs2 := sqL_but hto1 b2 hs1
  have ho2 := b2 _ _ ho1 nht
  have bH2 : But H H2 t := fun b o z y => b2 _ _ (b1 _ _ z y) y
  have nna0 : H na = none := by
    cases z : H na with
    | none => rfl
    | some u =>
      by_cases y : na = t
      · rw [y, hto1] at nna; cases nna
      · rw [b1 _ _ z y] at nna; cases nna
  have ens : (l.drop (i + 1)).take n = r0.take n := by rw [hd1]
  rw [ens] at hna
  -- rows
  have ekk : ((kk : Int)).toNat = kk := by omega
  refine ⟨_, rfl, sa, _, (1 : Int), .int (kk : Int), rfl, rfl, sa2 H2, rfl, (kk : Int), rfl, by omega, by omega, fun R hR => ?_⟩
  rw [ekk]
  obtain ⟨dt2, hto2⟩ := t2
  have Rt : t ≠ R := ne_of_none hto2 hR
  have nR0 : H R = none := by
    cases z : H R with
    | none => rfl
    | some u => rw [bH2 _ _ z Rt.symm] at hR; cases hR
  refine lc_range (lo := 0) (n := kk) (fun j H' => ∃ (m : Nat) (as : List Addr) (done rest : List (List Int)), But2 H2 H' t R ∧ TakerAt D H' t src m ∧ PyFlat.rows (kk - j) (l.drop m) = some (rest, r) ∧ xs = done ++ rest ∧ as.length = j ∧ (∀ a ∈ as, a ≠ R) ∧ RowsL H' as done ∧ H' R = some (.lst (as.map V.ref)))
    ⟨i + 1 + n, [], [], xs, fun b o z y1 y2 => (upd_ne y2).trans z, ⟨dt2, (upd_ne Rt).trans hto2⟩, by rw [← List.drop_drop, hd1]; exact hr0, rfl, rfl, nofun, ⟨rfl, nofun⟩, upd_same⟩ (fun j H3 hj e => ?_) (fun H3 e => ?_)
  · obtain ⟨m, as, done, rest, b3, ⟨dt3, hto3⟩, hrw, hx, hlen, hne, hrows, hR3⟩ := e
    obtain ⟨s, hs'⟩ : ∃ s, kk - j = s + 1 := ⟨kk - j - 1, by omega⟩
    rw [hs'] at hrw
    obtain ⟨nn, r1, rest', hm, hnn, rfl, hrw'⟩ := rows_succ hrw
    obtain ⟨hmi, hmd⟩ := get_drop hm
    refine ⟨rfl, ?_⟩
    refine ⟨_, rfl, t, dt3, _, rfl, hto3, rfl, ?_⟩
    refine ⟨t, src, m, l, nn, rfl, ⟨dt3, hto3⟩, sqL_but2 hto2 hR b3 hs2, hmi, fun H4 q b4 t4 nq hq => ?_⟩
    rw [hmd] at hq
    have hR4 := b4 _ _ hR3 Rt.symm
    have qR : q ≠ R := fun z => by rw [z, hR3] at nq; cases nq
    refine ⟨_, hR4, by rw [List.length_map, hlen]; exact small1000 (by omega), m + 1 + nn, as ++ [q], done ++ [r1.take nn], rest', ?_⟩
    refine ⟨fun b o z y1 y2 => (upd_ne y2).trans (b4 _ _ (b3 _ _ z y1 y2) y1), ?_, ?_, ?_, ?_, ?_, ?_, ?_⟩
    · obtain ⟨d4, t4⟩ := t4
      exact ⟨d4, (upd_ne Rt).trans t4⟩
    · rw [show kk - (j + 1) = s from by omega, ← List.drop_drop, hmd]
      exact hrw'
    · rw [hx, List.append_assoc]; rfl
    · rw [List.length_append, hlen]; rfl
    · intro a ha2
      rcases List.mem_append.mp ha2 with y | y
      · exact hne a y
      · rw [List.mem_singleton.mp y]; exact qR
    · refine RowsL.snoc (hrows.keep fun a am ys z => (upd_ne (hne a am)).trans (b4 _ _ z (ne_of z hto3 nofun))) ((upd_ne qR).trans hq)
    · rw [upd_same, List.map_append]; rfl
  · obtain ⟨m, as, done, rest, b3, ⟨dt3, hto3⟩, hrw, hx, hlen, hne, hrows, hR3⟩ := e
    rw [Nat.sub_self] at hrw
    obtain ⟨rfl, hm⟩ := rows_zero hrw
    rw [List.append_nil] at hx
    subst hx
    have hR2 : h ≠ R := ne_of_none ho2 hR
    have ho3 := b3 _ _ ho2 nht hR2
    have nat : na ≠ t := ne_of hna hto2 nofun
    have naR : na ≠ R := ne_of_none hna hR
    have hna3 := b3 _ _ hna nat naR
    have b03 : But H H3 t := fun b o z y => b3 _ _ (bH2 _ _ z y) y (ne_of_none z nR0)
    have hpa3 : HeldAt D H3 h pr := ⟨dh, pa, ho3, ProgAt.but hto (show (2 : Nat) ≠ 3 by decide) b03 hpa⟩
    refine ⟨_, rfl, h, dh, _, rfl, ho3, rfl, _, rfl, _, rfl, _, rfl, ?_⟩
    refine ⟨h, na, R, p, _, as, xs, pr, kc, rfl, hpa3, hp, SqL.of hna3, SqL.of hR3, hrows.at_, ask, fun nn hnn => ?_, fun u lo hu => ?_⟩
    · intro C H4 d xc s4 nd hd
      refine ⟨true, xc.em, fun _ a na4 => ?_, fun q => Bool.noConfusion q⟩
      refine ⟨_, rfl, rfl, C, d, nn, rfl, xc, rfl, hd, (by show 1 ≤ sizeLine; decide), fun q hq => ?_⟩
      have e := step_is (s := ⟨pr⟩) hk
      rw [hnn] at e
      have sq := same_upd (o := .lst [V.int nn]) hq
      have nq0 : H q = none := by
        cases z : H q with
        | none => rfl
        | some u =>
          by_cases y : q = t
          · rw [y, s4 _ _ hto3] at hq; cases hq
          · rw [s4 _ _ (b03 _ _ z y)] at hq; cases hq
      refine k _ q m (fun b o z y1 y2 => sq _ _ (s4 _ _ (b03 _ _ z y2))) ?_ ⟨dt3, sq _ _ (s4 _ _ hto3)⟩ hm nq0 ?_
      · rw [e]; exact (hpa3.same s4).same sq
      · rw [e, upd_same]; rfl
    · intro H4 q b4 h4 nq hq
      have e := step_is (s := ⟨pr⟩) hk
      rw [hu] at e
      have nq0 : H q = none := by
        cases z : H q with
        | none => rfl
        | some u =>
          by_cases y : q = t
          · rw [y, hto3] at nq; cases nq
          · rw [b03 _ _ z y] at nq; cases nq
      refine k H4 q m (fun b o z y1 y2 => b4 _ _ (b03 _ _ z y2) y1) ?_ ⟨dt3, b4 _ _ hto3 nht.symm⟩ hm nq0 ?_
      · rw [e]; exact h4
      · rw [e]; exact hq
end Lc
set_option Elab.async false
set_option linter.all false
set_option maxRecDepth 100000
set_option maxHeartbeats 4000000
namespace Lc
open PySem PySem.Spec PyProof.Rows L2
open Vagraa (Frac frac)
open VagraLine (Line)
open Vagrai (Prog Work)
variable {P : Program} {w : World} {K : PySem.W.Frag} {mg : Str → Option Value} {base : Heap} {D : Ad}
theorem told_append (a b : List (List Int)) : PyFlat.told (a ++ b) = PyFlat.told a ++ PyFlat.told b := List.flatMap_append
theorem sqL_same {K : PySem.W.Frag} {H H' : Hp} {a : Addr} {xs : List V} (k : Same H H') (h : SqL K H a xs) : SqL K H' a xs := by
  rcases h with (h | ⟨o, h⟩) | h
  · exact .inl (.inl (k _ _ h))
  · exact .inl (.inr ⟨o, k _ _ h⟩)
  · exact .inr h
def spAns (K : PySem.W.Frag) : Sp := fun vs H Q _ => ∃ (a : Addr) (l : List Int), vs = [.ref a] ∧ SqL K H a (l.map V.int) ∧ PyVagrai.answers_asked l = true ∧
  ∀ (H' : Hp) (q : Addr), H' q = some (.lst ((PyVagrai.answers l).map V.int)) → Q (.ref q) H'
theorem held_step {p : Prog} {c : List (List Int)} (hp : Held p) (ha : VagraiNeutral.asked1 c = true) (hc : ∃ q ns xs, c = (q :: ns) :: xs) : Held (VagraiNeutral.step ⟨p⟩ c).1.prog := by
  obtain ⟨q, ns, xs, rfl⟩ := hc
  obtain ⟨k, hk, _⟩ := asked_of ha
  rw [step_is hk]
  cases e : Vagrai.out ⟨p⟩ k with
  | error n => exact hp
  | ok r =>
    obtain ⟨u, l⟩ := r
    exact held_out hp e
theorem ok_answers (T : Txt K mg D) : FnOk P w K mg base CX0 10 D.a_answers D.d_answers P_answers (spAns K) := by
  have G_Held_init := ok_Held_init (P := P) (w := w) (base := base) T
  have G_Taker_init := ok_Taker_init (P := P) (w := w) (base := base) T
  have G_Taker_is_done := ok_Taker_is_done (P := P) (w := w) (base := base) T
  have G_answer_next := ok_answer_next (P := P) (w := w) (base := base) T
  refine T.F_answers.ok sc_answers (fun vs H Q E h => by first | (obtain ⟨rfl, _⟩ := h; rfl) | (obtain ⟨_, rfl, _⟩ := h; rfl) | (obtain ⟨_, _, rfl, _⟩ := h; rfl) | (obtain ⟨_, _, _, rfl, _⟩ := h; rfl) | (obtain ⟨_, _, _, _, rfl, _⟩ := h; rfl) | (obtain ⟨_, _, _, _, _, rfl, _⟩ := h; rfl) | (obtain ⟨_, _, _, _, _, _, rfl, _⟩ := h; rfl) | (obtain ⟨_, _, _, _, _, _, _, rfl, _⟩ := h; rfl) | (obtain ⟨_, _, _, _, _, _, _, _, rfl, _⟩ := h; rfl) | (obtain ⟨_, _, _, _, _, _, _, _, _, rfl, _⟩ := h; rfl) | (obtain ⟨_, _, _, _, _, _, _, _, _, _, rfl, _⟩ := h; rfl) | (obtain ⟨_, _, _, _, _, _, _, _, _, _, _, rfl, _⟩ := h; rfl) | (obtain ⟨_, _, _, _, _, _, _, _, _, _, _, _, rfl, _⟩ := h; rfl)) (fun cdv A outer s H vs Q E hr h => ?_)
  refine ⟨_, (pss_cons (ps_set (i := 1) sc_answers.nd rfl (.inl rfl) (pe_make0 T.mk_Held G_Held_init (hr.mono (by decide)) rfl T.g_Held (b_Held_init T) .nil pass0))
    (pss_cons (ps_set (i := 2) sc_answers.nd rfl (.inl rfl) (pe_make T.mk_Taker G_Taker_init (hr.mono (by decide)) rfl T.g_Taker (b_Taker_init T) .nil pass0 (pa_cons (pv 0) pa_nil)))
    (pss_cons (ps_set (i := 3) sc_answers.nd rfl (.inl rfl) (pe_lst pa_nil))
    (pss_cons (ps_while PassesOwn.never (pt_not (pt_val (pe_meth0 (pv 2) T.cl_Taker T.m_Taker_is_done G_Taker_is_done (hr.mono (by decide)) (b_Taker_is_done T) .nil pass0))) (pss_cons (ps_set (i := 4) sc_answers.nd rfl (.inl rfl) (pe_fr (pe_call G_answer_next (hr.mono (by decide)) rfl T.g_answer_next T.F_answer_next.kp (b_answer_next T) .nil pass0 (pa_cons (pv 1) (pa_cons (pv 2) pa_nil)))))
      (pss_cons (ps_expr (pe_bm PySem.F.plainAttrs_list PySem.F.slot_list_append PySem.F.type_list_append mt_append (pv 3) (pa_cons (pe_callB call_len_seq (by rfl) T.f_len PySem.boot_len (pa_cons (pv 4) pa_nil)) pa_nil)))
      (pss_one (ps_expr (pe_bm PySem.F.plainAttrs_list PySem.F.slot_list_extend PySem.F.type_list_extend mt_extend (pv 3) (pa_cons (pv 4) pa_nil)))))))
    (pss_one (ps_ret (pv 3))))))), ?_⟩
  obtain ⟨a, l, rfl, hs, hask, k⟩ := h
  obtain ⟨raw, hraw, hasked, hshort⟩ := asked_inv hask
  rw [calls_is hraw] at k
  generalize hall : PyFlat.told (PyFlat.played VagraiNeutral.step VagraiNeutral.start raw) = all at k hshort
  -- held = Held()
  intro h dh nh ndh nhd
  refine ⟨h, dh, rfl, upd_same, fun H1 b1 h1 => ?_⟩
  have s1 : Same H H1 := fun b o z => b1 _ _ ((upd_ne (ne_of_none z nh)).trans ((upd_ne (ne_of_none z ndh)).trans z)) (ne_of_none z nh)
  -- taker = Taker(calls)
  refine ⟨rfl, _, rfl, ?_⟩
  intro t dt nt ndt ntd
  refine ⟨t, dt, a, rfl, upd_same, rfl, ?_⟩
  rw [upd_upd]
  -- told = []
  refine ⟨(by show 0 ≤ sizeLine; decide), fun R hR => ?_⟩
  have Rt : t ≠ R := fun z => by rw [← z, upd_same] at hR; cases hR
  have nt0 : H t = none := s1.free nt
  have nR0 : H R = none := by
    cases z : H R with
    | none => rfl
    | some o =>
      have z1 := s1 _ _ z
      rw [upd_ne Rt.symm] at hR
      by_cases y : R = dt
      · rw [y, ndt] at z1; cases z1
      · rw [upd_ne y, z1] at hR; cases hR
  have s2 : Same H1 (upd (upd (upd H1 dt (.own t)) t (.ins D.c_Taker dt (tkF a 0))) R (.lst [])) := fun b o z => by
    rw [upd_ne (ne_of_none ((upd_ne (ne_of_none z nt)).trans ((upd_ne (ne_of_none z ndt)).trans z)) hR), upd_ne (ne_of_none z nt), upd_ne (ne_of_none z ndt)]
    exact z
  have dS : Same (upd (upd H1 dt (.own t)) t (.ins D.c_Taker dt (tkF a 0))) (del (upd (upd (upd H1 dt (.own t)) t (.ins D.c_Taker dt (tkF a 0))) R (.lst [])) R) := fun b o z => by
    have y : b ≠ R := ne_of_none z hR
    rw [del_ne y, upd_ne y]
    exact z
  have s3 : Same H1 (upd (upd H1 dt (.own t)) t (.ins D.c_Taker dt (tkF a 0))) := fun b o z => by
    rw [upd_ne (ne_of_none z nt), upd_ne (ne_of_none z ndt)]
    exact z
  refine ⟨fun m σ H' => ∃ (i g : Nat) (pr : Prog) (told : List Int) (cs : List (List (List Int))) (z : Option V), σ = [some (.ref a), some (.ref h), some (.ref t), some (.ref R), z] ∧ m = cs.length ∧ PyFlat.calls PyVagrai.shape g (l.drop i) = some cs ∧ (∀ c ∈ cs, c ∈ raw) ∧
    HeldAt D (del H' R) h pr ∧ Held pr ∧ TakerAt D (del H' R) t a i ∧ Same H (del H' R) ∧ H' R = some (.lst (told.map V.int)) ∧ told ++ PyFlat.told (PyFlat.played VagraiNeutral.step ⟨pr⟩ cs) = all,
    ⟨raw.length, 0, l.length, ⟨0, [], []⟩, [], raw, none, rfl, rfl, hraw, fun c x => x, h1.same (s3.trans dS), held_start, ⟨dt, dS _ _ upd_same⟩, (s1.trans s3).trans dS, upd_same, hall⟩, ?_⟩
  rintro m σ H2 ⟨i, g, pr, told, cs, z, rfl, rfl, hcs, hin, hh, hp, ht, sm, hR2, hall2⟩
  have dl : Same (del H2 R) H2 := fun b o z => by
    by_cases y : b = R
    · rw [y, del_same] at z; cases z
    · rw [del_ne y] at z; exact z
  have hlen : told.length + (PyFlat.told (PyFlat.played VagraiNeutral.step ⟨pr⟩ cs)).length ≤ 10000000 := by
    rw [← List.length_append, hall2]
    exact hshort
  obtain ⟨dt2, hto⟩ := ht
  refine ⟨_, rfl, t, dt2, _, rfl, dl _ _ hto, rfl, ?_⟩
  refine ⟨t, a, i, l, rfl, ⟨dt2, dl _ _ hto⟩, sqL_same (sm.trans dl) hs, ?_⟩
  by_cases dn : l.length ≤ i
  · rw [decide_eq_true dn]
    refine ⟨_, rfl, ifF rfl ?_⟩
    have e : l.drop i = [] := List.drop_eq_nil_of_le dn
    rw [e] at hcs
    have e2 := calls_nil hcs
    subst e2
    have e3 : told = all := (List.append_nil told).symm.trans hall2
    subst e3
    exact ⟨_, rfl, k _ R hR2⟩
  · rw [decide_eq_false dn]
    refine ⟨_, rfl, ifT rfl ?_⟩
    cases e : l.drop i with
    | nil => exact absurd (List.drop_eq_nil_iff.mp e) dn
    | cons p r =>
      rw [e] at hcs
      obtain ⟨g2, c, r2, ds, hc, hds, rfl⟩ := calls_cons hcs
      rw [← e] at hc
      have cr := hin c List.mem_cons_self
      have ca := hasked c cr
      obtain ⟨q0, r0, n0, k0, xs0, _, _, _, _, hc0⟩ := call_inv hc
      have hp2 := held_step hp ca ⟨_, _, _, hc0⟩
      have e4 : PyFlat.played VagraiNeutral.step ⟨pr⟩ (c :: ds) = (VagraiNeutral.step ⟨pr⟩ c).2 :: PyFlat.played VagraiNeutral.step (VagraiNeutral.step ⟨pr⟩ c).1 ds := rfl
      rw [e4, told_cons] at hlen hall2
      refine ⟨fun σ' H' => ∃ (i g : Nat) (pr : Prog) (told : List Int) (z : Option V), σ' = [some (.ref a), some (.ref h), some (.ref t), some (.ref R), z] ∧ PyFlat.calls PyVagrai.shape g (l.drop i) = some ds ∧
        HeldAt D (del H' R) h pr ∧ Held pr ∧ TakerAt D (del H' R) t a i ∧ Same H (del H' R) ∧ H' R = some (.lst (told.map V.int)) ∧ told ++ PyFlat.told (PyFlat.played VagraiNeutral.step ⟨pr⟩ ds) = all,
        fun σ' H' ⟨i, g, pr, told, z, e1, e2, e3, e4, e5, e6, e7, e8⟩ => ⟨ds.length, Nat.lt_succ_self _, i, g, pr, told, ds, z, e1, rfl, e2, fun c x => hin c (List.mem_cons_of_mem _ x), e3, e4, e5, e6, e7, e8⟩, ?_⟩
      refine ⟨R, _, hR2, _, rfl, _, rfl, ?_⟩
      refine ⟨h, t, a, i, l, pr, c, r2, rfl, hh, hp, ⟨dt2, hto⟩, sqL_same sm hs, hc, ca, fun H3 q j b3 hh3 ht3 hj nq hq hR3 => ?_⟩
      generalize hst : VagraiNeutral.step ⟨pr⟩ c = st at hp2 hlen hall2 hh3 hq
      obtain ⟨⟨pr2⟩, an⟩ := st
      have hh3 : HeldAt D H3 h pr2 := hh3
      have hq : H3 q = some (.lst (an.map V.int)) := hq
      have qR : q ≠ R := fun z => by rw [z, hR3] at hq; cases hq
      have sm3 : Same H H3 := fun b o z => b3 _ _ (sm _ _ z) (ne_of_none z nh) (ne_of_none z nt0)
      have hlen2 : told.length + ((an.length + 1) + (PyFlat.told (PyFlat.played VagraiNeutral.step ⟨pr2⟩ ds)).length) ≤ 10000000 := by
        rw [List.length_append, List.length_cons] at hlen
        exact hlen
      have hall3 : (told ++ [(an.length : Int)] ++ an) ++ PyFlat.told (PyFlat.played VagraiNeutral.step ⟨pr2⟩ ds) = all := by
        rw [← hall2, List.append_assoc, List.append_assoc]
        rfl
      have hd : ∀ o : HO, del (upd H3 R o) R = H3 := fun o => funext fun b => by
        by_cases y : b = R
        · rw [y, del_same, hR3]
        · rw [del_ne y, upd_ne y]
      -- told.append(len(answer))
      have zl : sizeLine = 16777216 := rfl
      refine ⟨_, rfl, .inl ⟨rfl, _, SqL.of upd_same⟩, _, rfl, q, _, rfl, .inl (SqL.of ((upd_ne qR).trans hq)), R, _, _, rfl, rfl, upd_same, by rw [List.length_map]; omega, ?_⟩
      -- told.extend(answer)
      refine ⟨_, rfl, .inl ⟨rfl, _, SqL.of upd_same⟩, _, rfl, ?_⟩
      refine ⟨R, q, _, _, rfl, rfl, upd_same, (upd_ne qR).trans ((upd_ne qR).trans hq), by simp; omega, ?_⟩
      refine ⟨j, g2, pr2, told ++ [(an.length : Int)] ++ an, _, rfl, by rw [hj]; exact hds, ?_⟩
      rw [upd_upd, upd_upd, hd]
      refine ⟨hh3, hp2, ht3, sm3, ?_, hall3⟩
      rw [upd_same]
      simp
end Lc
set_option Elab.async false
set_option linter.all false
set_option maxRecDepth 100000
set_option maxHeartbeats 4000000
namespace Lc
open PySem PySem.Spec PyProof.Rows L2
theorem exm_two {K : PySem.W.Frag} {C S : Addr} (h1 : PySem.W.subIn K (.ref S) (.type "BaseException") = some true) (h2 : PySem.W.isClsIn K S = true) (h3 : PySem.W.typeIn K (.ref S) = some (.type "type")) (h4 : PySem.W.subIn K (.ref C) (.ref S) = some true) : PySem.W.exmOne K (.ref C) (.ref S) = some true := by
  have e1 : (PySem.W.subIn K (.ref S) (.type "BaseException") == some true) = true := by rw [h1] <;> rfl
  have e2 : ((PySem.W.clsIn K S).isSome && PySem.W.typeIn K (.ref S) == some (.type "type")) = true := by
    have z : (PySem.W.clsIn K S).isSome = true := h2
    rw [z, h3] <;> rfl
  unfold PySem.W.exmOne PySem.W.kitCls
  rw [if_pos e1]
  exact (if_pos e2).trans h4
theorem txt_mk {K : PySem.W.Frag} {h : Heap} {mg : Str → Option Value} (X : K.In h) (G : h.Ns mainGlobals mg)
    {a_Program_init : Addr}
    {a_Draft_init : Addr}
    {a_Draft_put : Addr}
    {a_is_operation : Addr}
    {a_made_of : Addr}
    {a_operations : Addr}
    {a_told : Addr}
    {a_WeightDraft_init : Addr}
    {a_WeightDraft_weigh : Addr}
    {a_WeightDraft_weigh_outs : Addr}
    {a_WeightDraft_pass_on : Addr}
    {a_WeightDraft_pass_on_quotient : Addr}
    {a_WeightDraft_put_sum : Addr}
    {a_WeightDraft_gather : Addr}
    {a_backward : Addr}
    {a_ChangeDraft_init : Addr}
    {a_ChangeDraft_put_change : Addr}
    {a_ChangeDraft_opposite_of : Addr}
    {a_ChangeDraft_change_of_sum : Addr}
    {a_ChangeDraft_change_of_difference : Addr}
    {a_ChangeDraft_change_of_product : Addr}
    {a_ChangeDraft_change_of_quotient : Addr}
    {a_ChangeDraft_divided : Addr}
    {a_ChangeDraft_put_out : Addr}
    {a_forward : Addr}
    {a_common_divisor : Addr}
    {a_lowest : Addr}
    {a_weight : Addr}
    {a_opposite : Addr}
    {a_plus : Addr}
    {a_minus : Addr}
    {a_times : Addr}
    {a_over : Addr}
    {a_Refusal_init : Addr}
    {a_OutOfRange_init : Addr}
    {a_BadForm_init : Addr}
    {a_NotThere_init : Addr}
    {a_TooLarge_init : Addr}
    {a_check_choice : Addr}
    {a_read_line : Addr}
    {a_read_lines : Addr}
    {a_check_uses : Addr}
    {a_check_outs : Addr}
    {a_read_program : Addr}
    {a_read_fractions : Addr}
    {a_worked_out : Addr}
    {a_run : Addr}
    {a_is_too_large : Addr}
    {a_check_text : Addr}
    {a_input_name : Addr}
    {a_constant_name : Addr}
    {a_line_name : Addr}
    {a_let_part : Addr}
    {a_text_of : Addr}
    {a_needed_ones : Addr}
    {a_needed_lines : Addr}
    {a_renamed : Addr}
    {a_trimmed : Addr}
    {a_trimmed_if : Addr}
    {a_Held_init : Addr}
    {a_Held_answer_call : Addr}
    {a_Held_take_code : Addr}
    {a_Held_tell_back : Addr}
    {a_Held_tell_ahead : Addr}
    {a_Held_adopt_derivative : Addr}
    {a_Held_run_held : Addr}
    {a_Held_run_gradient : Addr}
    {a_Held_run_change : Addr}
    {a_Held_tell_ops : Addr}
    {a_Held_tell_text : Addr}
    {a_Held_tell_needed : Addr}
    {a_Taker_init : Addr}
    {a_Taker_is_done : Addr}
    {a_Taker_take : Addr}
    {a_Taker_take_number : Addr}
    {a_Taker_take_row : Addr}
    {a_answer_next : Addr}
    {a_answers : Addr}
    {c_Program : Addr}
    {c_Draft : Addr}
    {c_WeightDraft : Addr}
    {c_ChangeDraft : Addr}
    {c_Refusal : Addr}
    {c_OutOfRange : Addr}
    {c_BadForm : Addr}
    {c_NotThere : Addr}
    {c_TooLarge : Addr}
    {c_Held : Addr}
    {c_Taker : Addr}
    {od_Program_init an_Program_init : Option Addr} {sl_Program_init : Array (Option Value)} {oc_Program_init kV_Program_init dc_Program_init pm_Program_init cd_Program_init ct_Program_init : Value}
    {od_Draft_init an_Draft_init : Option Addr} {sl_Draft_init : Array (Option Value)} {oc_Draft_init kV_Draft_init dc_Draft_init pm_Draft_init cd_Draft_init ct_Draft_init : Value}
    {od_Draft_put an_Draft_put : Option Addr} {sl_Draft_put : Array (Option Value)} {oc_Draft_put kV_Draft_put dc_Draft_put pm_Draft_put cd_Draft_put ct_Draft_put : Value}
    {od_is_operation an_is_operation : Option Addr} {sl_is_operation : Array (Option Value)} {oc_is_operation kV_is_operation dc_is_operation pm_is_operation cd_is_operation ct_is_operation : Value}
    {od_made_of an_made_of : Option Addr} {sl_made_of : Array (Option Value)} {oc_made_of kV_made_of dc_made_of pm_made_of cd_made_of ct_made_of : Value}
    {od_operations an_operations : Option Addr} {sl_operations : Array (Option Value)} {oc_operations kV_operations dc_operations pm_operations cd_operations ct_operations : Value}
    {od_told an_told : Option Addr} {sl_told : Array (Option Value)} {oc_told kV_told dc_told pm_told cd_told ct_told : Value}
    {od_WeightDraft_init an_WeightDraft_init : Option Addr} {sl_WeightDraft_init : Array (Option Value)} {oc_WeightDraft_init kV_WeightDraft_init dc_WeightDraft_init pm_WeightDraft_init cd_WeightDraft_init ct_WeightDraft_init : Value}
    {od_WeightDraft_weigh an_WeightDraft_weigh : Option Addr} {sl_WeightDraft_weigh : Array (Option Value)} {oc_WeightDraft_weigh kV_WeightDraft_weigh dc_WeightDraft_weigh pm_WeightDraft_weigh cd_WeightDraft_weigh ct_WeightDraft_weigh : Value}
    {od_WeightDraft_weigh_outs an_WeightDraft_weigh_outs : Option Addr} {sl_WeightDraft_weigh_outs : Array (Option Value)} {oc_WeightDraft_weigh_outs kV_WeightDraft_weigh_outs dc_WeightDraft_weigh_outs pm_WeightDraft_weigh_outs cd_WeightDraft_weigh_outs ct_WeightDraft_weigh_outs : Value}
    {od_WeightDraft_pass_on an_WeightDraft_pass_on : Option Addr} {sl_WeightDraft_pass_on : Array (Option Value)} {oc_WeightDraft_pass_on kV_WeightDraft_pass_on dc_WeightDraft_pass_on pm_WeightDraft_pass_on cd_WeightDraft_pass_on ct_WeightDraft_pass_on : Value}
    {od_WeightDraft_pass_on_quotient an_WeightDraft_pass_on_quotient : Option Addr} {sl_WeightDraft_pass_on_quotient : Array (Option Value)} {oc_WeightDraft_pass_on_quotient kV_WeightDraft_pass_on_quotient dc_WeightDraft_pass_on_quotient pm_WeightDraft_pass_on_quotient cd_WeightDraft_pass_on_quotient ct_WeightDraft_pass_on_quotient : Value}
    {od_WeightDraft_put_sum an_WeightDraft_put_sum : Option Addr} {sl_WeightDraft_put_sum : Array (Option Value)} {oc_WeightDraft_put_sum kV_WeightDraft_put_sum dc_WeightDraft_put_sum pm_WeightDraft_put_sum cd_WeightDraft_put_sum ct_WeightDraft_put_sum : Value}
    {od_WeightDraft_gather an_WeightDraft_gather : Option Addr} {sl_WeightDraft_gather : Array (Option Value)} {oc_WeightDraft_gather kV_WeightDraft_gather dc_WeightDraft_gather pm_WeightDraft_gather cd_WeightDraft_gather ct_WeightDraft_gather : Value}
    {od_backward an_backward : Option Addr} {sl_backward : Array (Option Value)} {oc_backward kV_backward dc_backward pm_backward cd_backward ct_backward : Value}
    {od_ChangeDraft_init an_ChangeDraft_init : Option Addr} {sl_ChangeDraft_init : Array (Option Value)} {oc_ChangeDraft_init kV_ChangeDraft_init dc_ChangeDraft_init pm_ChangeDraft_init cd_ChangeDraft_init ct_ChangeDraft_init : Value}
    {od_ChangeDraft_put_change an_ChangeDraft_put_change : Option Addr} {sl_ChangeDraft_put_change : Array (Option Value)} {oc_ChangeDraft_put_change kV_ChangeDraft_put_change dc_ChangeDraft_put_change pm_ChangeDraft_put_change cd_ChangeDraft_put_change ct_ChangeDraft_put_change : Value}
    {od_ChangeDraft_opposite_of an_ChangeDraft_opposite_of : Option Addr} {sl_ChangeDraft_opposite_of : Array (Option Value)} {oc_ChangeDraft_opposite_of kV_ChangeDraft_opposite_of dc_ChangeDraft_opposite_of pm_ChangeDraft_opposite_of cd_ChangeDraft_opposite_of ct_ChangeDraft_opposite_of : Value}
    {od_ChangeDraft_change_of_sum an_ChangeDraft_change_of_sum : Option Addr} {sl_ChangeDraft_change_of_sum : Array (Option Value)} {oc_ChangeDraft_change_of_sum kV_ChangeDraft_change_of_sum dc_ChangeDraft_change_of_sum pm_ChangeDraft_change_of_sum cd_ChangeDraft_change_of_sum ct_ChangeDraft_change_of_sum : Value}
    {od_ChangeDraft_change_of_difference an_ChangeDraft_change_of_difference : Option Addr} {sl_ChangeDraft_change_of_difference : Array (Option Value)} {oc_ChangeDraft_change_of_difference kV_ChangeDraft_change_of_difference dc_ChangeDraft_change_of_difference pm_ChangeDraft_change_of_difference cd_ChangeDraft_change_of_difference ct_ChangeDraft_change_of_difference : Value}
    {od_ChangeDraft_change_of_product an_ChangeDraft_change_of_product : Option Addr} {sl_ChangeDraft_change_of_product : Array (Option Value)} {oc_ChangeDraft_change_of_product kV_ChangeDraft_change_of_product dc_ChangeDraft_change_of_product pm_ChangeDraft_change_of_product cd_ChangeDraft_change_of_product ct_ChangeDraft_change_of_product : Value}
    {od_ChangeDraft_change_of_quotient an_ChangeDraft_change_of_quotient : Option Addr} {sl_ChangeDraft_change_of_quotient : Array (Option Value)} {oc_ChangeDraft_change_of_quotient kV_ChangeDraft_change_of_quotient dc_ChangeDraft_change_of_quotient pm_ChangeDraft_change_of_quotient cd_ChangeDraft_change_of_quotient ct_ChangeDraft_change_of_quotient : Value}
    {od_ChangeDraft_divided an_ChangeDraft_divided : Option Addr} {sl_ChangeDraft_divided : Array (Option Value)} {oc_ChangeDraft_divided kV_ChangeDraft_divided dc_ChangeDraft_divided pm_ChangeDraft_divided cd_ChangeDraft_divided ct_ChangeDraft_divided : Value}
    {od_ChangeDraft_put_out an_ChangeDraft_put_out : Option Addr} {sl_ChangeDraft_put_out : Array (Option Value)} {oc_ChangeDraft_put_out kV_ChangeDraft_put_out dc_ChangeDraft_put_out pm_ChangeDraft_put_out cd_ChangeDraft_put_out ct_ChangeDraft_put_out : Value}
    {od_forward an_forward : Option Addr} {sl_forward : Array (Option Value)} {oc_forward kV_forward dc_forward pm_forward cd_forward ct_forward : Value}
    {od_common_divisor an_common_divisor : Option Addr} {sl_common_divisor : Array (Option Value)} {oc_common_divisor kV_common_divisor dc_common_divisor pm_common_divisor cd_common_divisor ct_common_divisor : Value}
    {od_lowest an_lowest : Option Addr} {sl_lowest : Array (Option Value)} {oc_lowest kV_lowest dc_lowest pm_lowest cd_lowest ct_lowest : Value}
    {od_weight an_weight : Option Addr} {sl_weight : Array (Option Value)} {oc_weight kV_weight dc_weight pm_weight cd_weight ct_weight : Value}
    {od_opposite an_opposite : Option Addr} {sl_opposite : Array (Option Value)} {oc_opposite kV_opposite dc_opposite pm_opposite cd_opposite ct_opposite : Value}
    {od_plus an_plus : Option Addr} {sl_plus : Array (Option Value)} {oc_plus kV_plus dc_plus pm_plus cd_plus ct_plus : Value}
    {od_minus an_minus : Option Addr} {sl_minus : Array (Option Value)} {oc_minus kV_minus dc_minus pm_minus cd_minus ct_minus : Value}
    {od_times an_times : Option Addr} {sl_times : Array (Option Value)} {oc_times kV_times dc_times pm_times cd_times ct_times : Value}
    {od_over an_over : Option Addr} {sl_over : Array (Option Value)} {oc_over kV_over dc_over pm_over cd_over ct_over : Value}
    {od_Refusal_init an_Refusal_init : Option Addr} {sl_Refusal_init : Array (Option Value)} {oc_Refusal_init kV_Refusal_init dc_Refusal_init pm_Refusal_init cd_Refusal_init ct_Refusal_init : Value}
    {od_OutOfRange_init an_OutOfRange_init : Option Addr} {sl_OutOfRange_init : Array (Option Value)} {oc_OutOfRange_init kV_OutOfRange_init dc_OutOfRange_init pm_OutOfRange_init cd_OutOfRange_init ct_OutOfRange_init : Value}
    {od_BadForm_init an_BadForm_init : Option Addr} {sl_BadForm_init : Array (Option Value)} {oc_BadForm_init kV_BadForm_init dc_BadForm_init pm_BadForm_init cd_BadForm_init ct_BadForm_init : Value}
    {od_NotThere_init an_NotThere_init : Option Addr} {sl_NotThere_init : Array (Option Value)} {oc_NotThere_init kV_NotThere_init dc_NotThere_init pm_NotThere_init cd_NotThere_init ct_NotThere_init : Value}
    {od_TooLarge_init an_TooLarge_init : Option Addr} {sl_TooLarge_init : Array (Option Value)} {oc_TooLarge_init kV_TooLarge_init dc_TooLarge_init pm_TooLarge_init cd_TooLarge_init ct_TooLarge_init : Value}
    {od_check_choice an_check_choice : Option Addr} {sl_check_choice : Array (Option Value)} {oc_check_choice kV_check_choice dc_check_choice pm_check_choice cd_check_choice ct_check_choice : Value}
    {od_read_line an_read_line : Option Addr} {sl_read_line : Array (Option Value)} {oc_read_line kV_read_line dc_read_line pm_read_line cd_read_line ct_read_line : Value}
    {od_read_lines an_read_lines : Option Addr} {sl_read_lines : Array (Option Value)} {oc_read_lines kV_read_lines dc_read_lines pm_read_lines cd_read_lines ct_read_lines : Value}
    {od_check_uses an_check_uses : Option Addr} {sl_check_uses : Array (Option Value)} {oc_check_uses kV_check_uses dc_check_uses pm_check_uses cd_check_uses ct_check_uses : Value}
    {od_check_outs an_check_outs : Option Addr} {sl_check_outs : Array (Option Value)} {oc_check_outs kV_check_outs dc_check_outs pm_check_outs cd_check_outs ct_check_outs : Value}
    {od_read_program an_read_program : Option Addr} {sl_read_program : Array (Option Value)} {oc_read_program kV_read_program dc_read_program pm_read_program cd_read_program ct_read_program : Value}
    {od_read_fractions an_read_fractions : Option Addr} {sl_read_fractions : Array (Option Value)} {oc_read_fractions kV_read_fractions dc_read_fractions pm_read_fractions cd_read_fractions ct_read_fractions : Value}
    {od_worked_out an_worked_out : Option Addr} {sl_worked_out : Array (Option Value)} {oc_worked_out kV_worked_out dc_worked_out pm_worked_out cd_worked_out ct_worked_out : Value}
    {od_run an_run : Option Addr} {sl_run : Array (Option Value)} {oc_run kV_run dc_run pm_run cd_run ct_run : Value}
    {od_is_too_large an_is_too_large : Option Addr} {sl_is_too_large : Array (Option Value)} {oc_is_too_large kV_is_too_large dc_is_too_large pm_is_too_large cd_is_too_large ct_is_too_large : Value}
    {od_check_text an_check_text : Option Addr} {sl_check_text : Array (Option Value)} {oc_check_text kV_check_text dc_check_text pm_check_text cd_check_text ct_check_text : Value}
    {od_input_name an_input_name : Option Addr} {sl_input_name : Array (Option Value)} {oc_input_name kV_input_name dc_input_name pm_input_name cd_input_name ct_input_name : Value}
    {od_constant_name an_constant_name : Option Addr} {sl_constant_name : Array (Option Value)} {oc_constant_name kV_constant_name dc_constant_name pm_constant_name cd_constant_name ct_constant_name : Value}
    {od_line_name an_line_name : Option Addr} {sl_line_name : Array (Option Value)} {oc_line_name kV_line_name dc_line_name pm_line_name cd_line_name ct_line_name : Value}
    {od_let_part an_let_part : Option Addr} {sl_let_part : Array (Option Value)} {oc_let_part kV_let_part dc_let_part pm_let_part cd_let_part ct_let_part : Value}
    {od_text_of an_text_of : Option Addr} {sl_text_of : Array (Option Value)} {oc_text_of kV_text_of dc_text_of pm_text_of cd_text_of ct_text_of : Value}
    {od_needed_ones an_needed_ones : Option Addr} {sl_needed_ones : Array (Option Value)} {oc_needed_ones kV_needed_ones dc_needed_ones pm_needed_ones cd_needed_ones ct_needed_ones : Value}
    {od_needed_lines an_needed_lines : Option Addr} {sl_needed_lines : Array (Option Value)} {oc_needed_lines kV_needed_lines dc_needed_lines pm_needed_lines cd_needed_lines ct_needed_lines : Value}
    {od_renamed an_renamed : Option Addr} {sl_renamed : Array (Option Value)} {oc_renamed kV_renamed dc_renamed pm_renamed cd_renamed ct_renamed : Value}
    {od_trimmed an_trimmed : Option Addr} {sl_trimmed : Array (Option Value)} {oc_trimmed kV_trimmed dc_trimmed pm_trimmed cd_trimmed ct_trimmed : Value}
    {od_trimmed_if an_trimmed_if : Option Addr} {sl_trimmed_if : Array (Option Value)} {oc_trimmed_if kV_trimmed_if dc_trimmed_if pm_trimmed_if cd_trimmed_if ct_trimmed_if : Value}
    {od_Held_init an_Held_init : Option Addr} {sl_Held_init : Array (Option Value)} {oc_Held_init kV_Held_init dc_Held_init pm_Held_init cd_Held_init ct_Held_init : Value}
    {od_Held_answer_call an_Held_answer_call : Option Addr} {sl_Held_answer_call : Array (Option Value)} {oc_Held_answer_call kV_Held_answer_call dc_Held_answer_call pm_Held_answer_call cd_Held_answer_call ct_Held_answer_call : Value}
    {od_Held_take_code an_Held_take_code : Option Addr} {sl_Held_take_code : Array (Option Value)} {oc_Held_take_code kV_Held_take_code dc_Held_take_code pm_Held_take_code cd_Held_take_code ct_Held_take_code : Value}
    {od_Held_tell_back an_Held_tell_back : Option Addr} {sl_Held_tell_back : Array (Option Value)} {oc_Held_tell_back kV_Held_tell_back dc_Held_tell_back pm_Held_tell_back cd_Held_tell_back ct_Held_tell_back : Value}
    {od_Held_tell_ahead an_Held_tell_ahead : Option Addr} {sl_Held_tell_ahead : Array (Option Value)} {oc_Held_tell_ahead kV_Held_tell_ahead dc_Held_tell_ahead pm_Held_tell_ahead cd_Held_tell_ahead ct_Held_tell_ahead : Value}
    {od_Held_adopt_derivative an_Held_adopt_derivative : Option Addr} {sl_Held_adopt_derivative : Array (Option Value)} {oc_Held_adopt_derivative kV_Held_adopt_derivative dc_Held_adopt_derivative pm_Held_adopt_derivative cd_Held_adopt_derivative ct_Held_adopt_derivative : Value}
    {od_Held_run_held an_Held_run_held : Option Addr} {sl_Held_run_held : Array (Option Value)} {oc_Held_run_held kV_Held_run_held dc_Held_run_held pm_Held_run_held cd_Held_run_held ct_Held_run_held : Value}
    {od_Held_run_gradient an_Held_run_gradient : Option Addr} {sl_Held_run_gradient : Array (Option Value)} {oc_Held_run_gradient kV_Held_run_gradient dc_Held_run_gradient pm_Held_run_gradient cd_Held_run_gradient ct_Held_run_gradient : Value}
    {od_Held_run_change an_Held_run_change : Option Addr} {sl_Held_run_change : Array (Option Value)} {oc_Held_run_change kV_Held_run_change dc_Held_run_change pm_Held_run_change cd_Held_run_change ct_Held_run_change : Value}
    {od_Held_tell_ops an_Held_tell_ops : Option Addr} {sl_Held_tell_ops : Array (Option Value)} {oc_Held_tell_ops kV_Held_tell_ops dc_Held_tell_ops pm_Held_tell_ops cd_Held_tell_ops ct_Held_tell_ops : Value}
    {od_Held_tell_text an_Held_tell_text : Option Addr} {sl_Held_tell_text : Array (Option Value)} {oc_Held_tell_text kV_Held_tell_text dc_Held_tell_text pm_Held_tell_text cd_Held_tell_text ct_Held_tell_text : Value}
    {od_Held_tell_needed an_Held_tell_needed : Option Addr} {sl_Held_tell_needed : Array (Option Value)} {oc_Held_tell_needed kV_Held_tell_needed dc_Held_tell_needed pm_Held_tell_needed cd_Held_tell_needed ct_Held_tell_needed : Value}
    {od_Taker_init an_Taker_init : Option Addr} {sl_Taker_init : Array (Option Value)} {oc_Taker_init kV_Taker_init dc_Taker_init pm_Taker_init cd_Taker_init ct_Taker_init : Value}
    {od_Taker_is_done an_Taker_is_done : Option Addr} {sl_Taker_is_done : Array (Option Value)} {oc_Taker_is_done kV_Taker_is_done dc_Taker_is_done pm_Taker_is_done cd_Taker_is_done ct_Taker_is_done : Value}
    {od_Taker_take an_Taker_take : Option Addr} {sl_Taker_take : Array (Option Value)} {oc_Taker_take kV_Taker_take dc_Taker_take pm_Taker_take cd_Taker_take ct_Taker_take : Value}
    {od_Taker_take_number an_Taker_take_number : Option Addr} {sl_Taker_take_number : Array (Option Value)} {oc_Taker_take_number kV_Taker_take_number dc_Taker_take_number pm_Taker_take_number cd_Taker_take_number ct_Taker_take_number : Value}
    {od_Taker_take_row an_Taker_take_row : Option Addr} {sl_Taker_take_row : Array (Option Value)} {oc_Taker_take_row kV_Taker_take_row dc_Taker_take_row pm_Taker_take_row cd_Taker_take_row ct_Taker_take_row : Value}
    {od_answer_next an_answer_next : Option Addr} {sl_answer_next : Array (Option Value)} {oc_answer_next kV_answer_next dc_answer_next pm_answer_next cd_answer_next ct_answer_next : Value}
    {od_answers an_answers : Option Addr} {sl_answers : Array (Option Value)} {oc_answers kV_answers dc_answers pm_answers cd_answers ct_answers : Value}
    {nm_OutOfRange : Str} {q_OutOfRange : Str} {N_OutOfRange : Addr} {bs_OutOfRange : List Value} {sn_OutOfRange : List Str} {sub_OutOfRange : List Value} {ab_OutOfRange : Bool} {col_OutOfRange : Option Bool} {dd_OutOfRange : Option Addr} {k0_OutOfRange : Option Value} {k1_OutOfRange : Option Value} {k2_OutOfRange : Option Value} {k3_OutOfRange : Option Value} {k5_OutOfRange : Option Value}
    {nm_BadForm : Str} {q_BadForm : Str} {N_BadForm : Addr} {bs_BadForm : List Value} {sn_BadForm : List Str} {sub_BadForm : List Value} {ab_BadForm : Bool} {col_BadForm : Option Bool} {dd_BadForm : Option Addr} {k0_BadForm : Option Value} {k1_BadForm : Option Value} {k2_BadForm : Option Value} {k3_BadForm : Option Value} {k5_BadForm : Option Value}
    {nm_NotThere : Str} {q_NotThere : Str} {N_NotThere : Addr} {bs_NotThere : List Value} {sn_NotThere : List Str} {sub_NotThere : List Value} {ab_NotThere : Bool} {col_NotThere : Option Bool} {dd_NotThere : Option Addr} {k0_NotThere : Option Value} {k1_NotThere : Option Value} {k2_NotThere : Option Value} {k3_NotThere : Option Value} {k5_NotThere : Option Value}
    {nm_TooLarge : Str} {q_TooLarge : Str} {N_TooLarge : Addr} {bs_TooLarge : List Value} {sn_TooLarge : List Str} {sub_TooLarge : List Value} {ab_TooLarge : Bool} {col_TooLarge : Option Bool} {dd_TooLarge : Option Addr} {k0_TooLarge : Option Value} {k1_TooLarge : Option Value} {k2_TooLarge : Option Value} {k3_TooLarge : Option Value} {k5_TooLarge : Option Value}
    {tk_INPUT : Tok}
    {tk_CONSTANT : Tok}
    {tk_SUM : Tok}
    {tk_DIFFERENCE : Tok}
    {tk_PRODUCT : Tok}
    {tk_QUOTIENT : Tok}
    {tk_OPPOSITE : Tok}
    {tk_MOST_INPUTS_reading : Tok}
    {tk_MOST_LINES : Tok}
    {tk_MOST_OUTS_reading : Tok}
    {tk_DIVISOR_IS_ZERO : Tok}
    {tk_TOO_HEAVY : Tok}
    {tk_HEAVIEST : Tok}
    {tk_MOST_INPUTS_texts : Tok}
    {tk_MOST_OUTS_texts : Tok}
    {tk_MOST_OPERATIONS : Tok}
    {tk_TOO_LARGE_A_NUMBER : Tok}
    {tk_CODE : Tok}
    {tk_BACK : Tok}
    {tk_AHEAD : Tok}
    {tk_ADOPT : Tok}
    {tk_RUN : Tok}
    {tk_GRADIENT : Tok}
    {tk_CHANGE : Tok}
    {tk_OPS : Tok}
    {tk_TEXT : Tok}
    {tk_LINES : Tok}
    {tk_MOST_ADOPTED_INPUTS : Tok}
    {tk_MOST_ADOPTED_LINES : Tok}
    {k_SIZES : Addr}
    {tk_SIZES_0 : Tok}
    {tk_SIZES_1 : Tok}
    {tk_SIZES_2 : Tok}
    {tk_SIZES_3 : Tok}
    {tk_SIZES_4 : Tok}
    {tk_SIZES_5 : Tok}
    {tk_SIZES_6 : Tok}
    {od_SIZES : Option Addr} {n_SIZES : Nat} {sl_SIZES : Array (Option Value)}
    {k_SIGNS : Addr}
    {tk_SIGNS_0 : Tok}
    {tk_SIGNS_1 : Tok}
    {tk_SIGNS_2 : Tok}
    {tk_SIGNS_3 : Tok}
    {tk_SIGNS_4 : Tok}
    {tk_SIGNS_5 : Tok}
    {tk_SIGNS_6 : Tok}
    {od_SIGNS : Option Addr} {n_SIGNS : Nat} {sl_SIGNS : Array (Option Value)}
    {k_SHAPES : Addr}
    {k_SHAPES_0 : Addr}
    {k_SHAPES_1 : Addr}
    {k_SHAPES_2 : Addr}
    {k_SHAPES_3 : Addr}
    {k_SHAPES_4 : Addr}
    {k_SHAPES_5 : Addr}
    {k_SHAPES_6 : Addr}
    {k_SHAPES_7 : Addr}
    {k_SHAPES_8 : Addr}
    {k_SHAPES_9 : Addr}
    {k_SHAPES_10 : Addr}
    {od_SHAPES : Option Addr} {n_SHAPES : Nat} {sl_SHAPES : Array (Option Value)}
    {tk_SHAPES_0_0 : Tok}
    {tk_SHAPES_0_1 : Tok}
    {od_SHAPES_0 : Option Addr} {n_SHAPES_0 : Nat} {sl_SHAPES_0 : Array (Option Value)}
    {tk_SHAPES_1_0 : Tok}
    {tk_SHAPES_1_1 : Tok}
    {od_SHAPES_1 : Option Addr} {n_SHAPES_1 : Nat} {sl_SHAPES_1 : Array (Option Value)}
    {tk_SHAPES_2_0 : Tok}
    {tk_SHAPES_2_1 : Tok}
    {od_SHAPES_2 : Option Addr} {n_SHAPES_2 : Nat} {sl_SHAPES_2 : Array (Option Value)}
    {tk_SHAPES_3_0 : Tok}
    {tk_SHAPES_3_1 : Tok}
    {od_SHAPES_3 : Option Addr} {n_SHAPES_3 : Nat} {sl_SHAPES_3 : Array (Option Value)}
    {tk_SHAPES_4_0 : Tok}
    {tk_SHAPES_4_1 : Tok}
    {od_SHAPES_4 : Option Addr} {n_SHAPES_4 : Nat} {sl_SHAPES_4 : Array (Option Value)}
    {tk_SHAPES_5_0 : Tok}
    {tk_SHAPES_5_1 : Tok}
    {od_SHAPES_5 : Option Addr} {n_SHAPES_5 : Nat} {sl_SHAPES_5 : Array (Option Value)}
    {tk_SHAPES_6_0 : Tok}
    {tk_SHAPES_6_1 : Tok}
    {od_SHAPES_6 : Option Addr} {n_SHAPES_6 : Nat} {sl_SHAPES_6 : Array (Option Value)}
    {tk_SHAPES_7_0 : Tok}
    {tk_SHAPES_7_1 : Tok}
    {od_SHAPES_7 : Option Addr} {n_SHAPES_7 : Nat} {sl_SHAPES_7 : Array (Option Value)}
    {tk_SHAPES_8_0 : Tok}
    {tk_SHAPES_8_1 : Tok}
    {od_SHAPES_8 : Option Addr} {n_SHAPES_8 : Nat} {sl_SHAPES_8 : Array (Option Value)}
    {tk_SHAPES_9_0 : Tok}
    {tk_SHAPES_9_1 : Tok}
    {od_SHAPES_9 : Option Addr} {n_SHAPES_9 : Nat} {sl_SHAPES_9 : Array (Option Value)}
    {tk_SHAPES_10_0 : Tok}
    {tk_SHAPES_10_1 : Tok}
    {od_SHAPES_10 : Option Addr} {n_SHAPES_10 : Nat} {sl_SHAPES_10 : Array (Option Value)}
    (g_Program : PySem.W.nsIn K mainGlobals "Program" = some (some (.ref c_Program)))
    (g_Draft : PySem.W.nsIn K mainGlobals "Draft" = some (some (.ref c_Draft)))
    (g_WeightDraft : PySem.W.nsIn K mainGlobals "WeightDraft" = some (some (.ref c_WeightDraft)))
    (g_ChangeDraft : PySem.W.nsIn K mainGlobals "ChangeDraft" = some (some (.ref c_ChangeDraft)))
    (g_Refusal : PySem.W.nsIn K mainGlobals "Refusal" = some (some (.ref c_Refusal)))
    (g_OutOfRange : PySem.W.nsIn K mainGlobals "OutOfRange" = some (some (.ref c_OutOfRange)))
    (g_BadForm : PySem.W.nsIn K mainGlobals "BadForm" = some (some (.ref c_BadForm)))
    (g_NotThere : PySem.W.nsIn K mainGlobals "NotThere" = some (some (.ref c_NotThere)))
    (g_TooLarge : PySem.W.nsIn K mainGlobals "TooLarge" = some (some (.ref c_TooLarge)))
    (g_Held : PySem.W.nsIn K mainGlobals "Held" = some (some (.ref c_Held)))
    (g_Taker : PySem.W.nsIn K mainGlobals "Taker" = some (some (.ref c_Taker)))
    (g_is_operation : PySem.W.nsIn K mainGlobals "is_operation" = some (some (.ref a_is_operation)))
    (g_made_of : PySem.W.nsIn K mainGlobals "made_of" = some (some (.ref a_made_of)))
    (g_operations : PySem.W.nsIn K mainGlobals "operations" = some (some (.ref a_operations)))
    (g_told : PySem.W.nsIn K mainGlobals "told" = some (some (.ref a_told)))
    (g_backward : PySem.W.nsIn K mainGlobals "backward" = some (some (.ref a_backward)))
    (g_forward : PySem.W.nsIn K mainGlobals "forward" = some (some (.ref a_forward)))
    (g_common_divisor : PySem.W.nsIn K mainGlobals "common_divisor" = some (some (.ref a_common_divisor)))
    (g_lowest : PySem.W.nsIn K mainGlobals "lowest" = some (some (.ref a_lowest)))
    (g_weight : PySem.W.nsIn K mainGlobals "weight" = some (some (.ref a_weight)))
    (g_opposite : PySem.W.nsIn K mainGlobals "opposite" = some (some (.ref a_opposite)))
    (g_plus : PySem.W.nsIn K mainGlobals "plus" = some (some (.ref a_plus)))
    (g_minus : PySem.W.nsIn K mainGlobals "minus" = some (some (.ref a_minus)))
    (g_times : PySem.W.nsIn K mainGlobals "times" = some (some (.ref a_times)))
    (g_over : PySem.W.nsIn K mainGlobals "over" = some (some (.ref a_over)))
    (g_check_choice : PySem.W.nsIn K mainGlobals "check_choice" = some (some (.ref a_check_choice)))
    (g_read_line : PySem.W.nsIn K mainGlobals "read_line" = some (some (.ref a_read_line)))
    (g_read_lines : PySem.W.nsIn K mainGlobals "read_lines" = some (some (.ref a_read_lines)))
    (g_check_uses : PySem.W.nsIn K mainGlobals "check_uses" = some (some (.ref a_check_uses)))
    (g_check_outs : PySem.W.nsIn K mainGlobals "check_outs" = some (some (.ref a_check_outs)))
    (g_read_program : PySem.W.nsIn K mainGlobals "read_program" = some (some (.ref a_read_program)))
    (g_read_fractions : PySem.W.nsIn K mainGlobals "read_fractions" = some (some (.ref a_read_fractions)))
    (g_worked_out : PySem.W.nsIn K mainGlobals "worked_out" = some (some (.ref a_worked_out)))
    (g_run : PySem.W.nsIn K mainGlobals "run" = some (some (.ref a_run)))
    (g_is_too_large : PySem.W.nsIn K mainGlobals "is_too_large" = some (some (.ref a_is_too_large)))
    (g_check_text : PySem.W.nsIn K mainGlobals "check_text" = some (some (.ref a_check_text)))
    (g_input_name : PySem.W.nsIn K mainGlobals "input_name" = some (some (.ref a_input_name)))
    (g_constant_name : PySem.W.nsIn K mainGlobals "constant_name" = some (some (.ref a_constant_name)))
    (g_line_name : PySem.W.nsIn K mainGlobals "line_name" = some (some (.ref a_line_name)))
    (g_let_part : PySem.W.nsIn K mainGlobals "let_part" = some (some (.ref a_let_part)))
    (g_text_of : PySem.W.nsIn K mainGlobals "text_of" = some (some (.ref a_text_of)))
    (g_needed_ones : PySem.W.nsIn K mainGlobals "needed_ones" = some (some (.ref a_needed_ones)))
    (g_needed_lines : PySem.W.nsIn K mainGlobals "needed_lines" = some (some (.ref a_needed_lines)))
    (g_renamed : PySem.W.nsIn K mainGlobals "renamed" = some (some (.ref a_renamed)))
    (g_trimmed : PySem.W.nsIn K mainGlobals "trimmed" = some (some (.ref a_trimmed)))
    (g_trimmed_if : PySem.W.nsIn K mainGlobals "trimmed_if" = some (some (.ref a_trimmed_if)))
    (g_answer_next : PySem.W.nsIn K mainGlobals "answer_next" = some (some (.ref a_answer_next)))
    (g_answers : PySem.W.nsIn K mainGlobals "answers" = some (some (.ref a_answers)))
    (pg_Program : PySem.W.plainGet K c_Program Str.empty = true)
    (hd_Program : PySem.W.hasDictIn K c_Program = true)
    (po_Program : PySem.W.plainOver K c_Program = true)
    (sa_Program : PySem.W.findIn K (.ref c_Program) "__setattr__" = some (some (.builtin "object.__setattr__")))
    (mk_Program : PySem.W.makesIn K c_Program = true)
    (in_Program : PySem.W.findIn K (.ref c_Program) "__init__" = some (some (.ref a_Program_init)))
    (fn_Program : PySem.W.isFn K (.ref a_Program_init) = true)
    (kp_Program : PySem.W.keepIn K (.ref c_Program) = true)
    (n_Program_inputs : PySem.W.findIn K (.ref c_Program) "inputs" = some none)
    (n_Program_lines : PySem.W.findIn K (.ref c_Program) "lines" = some none)
    (n_Program_outs : PySem.W.findIn K (.ref c_Program) "outs" = some none)
    (pg_Draft : PySem.W.plainGet K c_Draft Str.empty = true)
    (hd_Draft : PySem.W.hasDictIn K c_Draft = true)
    (po_Draft : PySem.W.plainOver K c_Draft = true)
    (sa_Draft : PySem.W.findIn K (.ref c_Draft) "__setattr__" = some (some (.builtin "object.__setattr__")))
    (m_Draft_put : PySem.W.findIn K (.ref c_Draft) "put" = some (some (.ref a_Draft_put)))
    (mf_Draft_put : PySem.W.isFn K (.ref a_Draft_put) = true)
    (n_Draft_lines : PySem.W.findIn K (.ref c_Draft) "lines" = some none)
    (pg_WeightDraft : PySem.W.plainGet K c_WeightDraft Str.empty = true)
    (hd_WeightDraft : PySem.W.hasDictIn K c_WeightDraft = true)
    (po_WeightDraft : PySem.W.plainOver K c_WeightDraft = true)
    (sa_WeightDraft : PySem.W.findIn K (.ref c_WeightDraft) "__setattr__" = some (some (.builtin "object.__setattr__")))
    (mk_WeightDraft : PySem.W.makesIn K c_WeightDraft = true)
    (in_WeightDraft : PySem.W.findIn K (.ref c_WeightDraft) "__init__" = some (some (.ref a_WeightDraft_init)))
    (fn_WeightDraft : PySem.W.isFn K (.ref a_WeightDraft_init) = true)
    (kp_WeightDraft : PySem.W.keepIn K (.ref c_WeightDraft) = true)
    (m_WeightDraft_put : PySem.W.findIn K (.ref c_WeightDraft) "put" = some (some (.ref a_Draft_put)))
    (mf_WeightDraft_put : PySem.W.isFn K (.ref a_Draft_put) = true)
    (m_WeightDraft_weigh : PySem.W.findIn K (.ref c_WeightDraft) "weigh" = some (some (.ref a_WeightDraft_weigh)))
    (mf_WeightDraft_weigh : PySem.W.isFn K (.ref a_WeightDraft_weigh) = true)
    (m_WeightDraft_weigh_outs : PySem.W.findIn K (.ref c_WeightDraft) "weigh_outs" = some (some (.ref a_WeightDraft_weigh_outs)))
    (mf_WeightDraft_weigh_outs : PySem.W.isFn K (.ref a_WeightDraft_weigh_outs) = true)
    (m_WeightDraft_pass_on : PySem.W.findIn K (.ref c_WeightDraft) "pass_on" = some (some (.ref a_WeightDraft_pass_on)))
    (mf_WeightDraft_pass_on : PySem.W.isFn K (.ref a_WeightDraft_pass_on) = true)
    (m_WeightDraft_pass_on_quotient : PySem.W.findIn K (.ref c_WeightDraft) "pass_on_quotient" = some (some (.ref a_WeightDraft_pass_on_quotient)))
    (mf_WeightDraft_pass_on_quotient : PySem.W.isFn K (.ref a_WeightDraft_pass_on_quotient) = true)
    (m_WeightDraft_put_sum : PySem.W.findIn K (.ref c_WeightDraft) "put_sum" = some (some (.ref a_WeightDraft_put_sum)))
    (mf_WeightDraft_put_sum : PySem.W.isFn K (.ref a_WeightDraft_put_sum) = true)
    (m_WeightDraft_gather : PySem.W.findIn K (.ref c_WeightDraft) "gather" = some (some (.ref a_WeightDraft_gather)))
    (mf_WeightDraft_gather : PySem.W.isFn K (.ref a_WeightDraft_gather) = true)
    (n_WeightDraft_lines : PySem.W.findIn K (.ref c_WeightDraft) "lines" = some none)
    (n_WeightDraft_holders : PySem.W.findIn K (.ref c_WeightDraft) "holders" = some none)
    (pg_ChangeDraft : PySem.W.plainGet K c_ChangeDraft Str.empty = true)
    (hd_ChangeDraft : PySem.W.hasDictIn K c_ChangeDraft = true)
    (po_ChangeDraft : PySem.W.plainOver K c_ChangeDraft = true)
    (sa_ChangeDraft : PySem.W.findIn K (.ref c_ChangeDraft) "__setattr__" = some (some (.builtin "object.__setattr__")))
    (mk_ChangeDraft : PySem.W.makesIn K c_ChangeDraft = true)
    (in_ChangeDraft : PySem.W.findIn K (.ref c_ChangeDraft) "__init__" = some (some (.ref a_ChangeDraft_init)))
    (fn_ChangeDraft : PySem.W.isFn K (.ref a_ChangeDraft_init) = true)
    (kp_ChangeDraft : PySem.W.keepIn K (.ref c_ChangeDraft) = true)
    (m_ChangeDraft_put : PySem.W.findIn K (.ref c_ChangeDraft) "put" = some (some (.ref a_Draft_put)))
    (mf_ChangeDraft_put : PySem.W.isFn K (.ref a_Draft_put) = true)
    (m_ChangeDraft_put_change : PySem.W.findIn K (.ref c_ChangeDraft) "put_change" = some (some (.ref a_ChangeDraft_put_change)))
    (mf_ChangeDraft_put_change : PySem.W.isFn K (.ref a_ChangeDraft_put_change) = true)
    (m_ChangeDraft_opposite_of : PySem.W.findIn K (.ref c_ChangeDraft) "opposite_of" = some (some (.ref a_ChangeDraft_opposite_of)))
    (mf_ChangeDraft_opposite_of : PySem.W.isFn K (.ref a_ChangeDraft_opposite_of) = true)
    (m_ChangeDraft_change_of_sum : PySem.W.findIn K (.ref c_ChangeDraft) "change_of_sum" = some (some (.ref a_ChangeDraft_change_of_sum)))
    (mf_ChangeDraft_change_of_sum : PySem.W.isFn K (.ref a_ChangeDraft_change_of_sum) = true)
    (m_ChangeDraft_change_of_difference : PySem.W.findIn K (.ref c_ChangeDraft) "change_of_difference" = some (some (.ref a_ChangeDraft_change_of_difference)))
    (mf_ChangeDraft_change_of_difference : PySem.W.isFn K (.ref a_ChangeDraft_change_of_difference) = true)
    (m_ChangeDraft_change_of_product : PySem.W.findIn K (.ref c_ChangeDraft) "change_of_product" = some (some (.ref a_ChangeDraft_change_of_product)))
    (mf_ChangeDraft_change_of_product : PySem.W.isFn K (.ref a_ChangeDraft_change_of_product) = true)
    (m_ChangeDraft_change_of_quotient : PySem.W.findIn K (.ref c_ChangeDraft) "change_of_quotient" = some (some (.ref a_ChangeDraft_change_of_quotient)))
    (mf_ChangeDraft_change_of_quotient : PySem.W.isFn K (.ref a_ChangeDraft_change_of_quotient) = true)
    (m_ChangeDraft_divided : PySem.W.findIn K (.ref c_ChangeDraft) "divided" = some (some (.ref a_ChangeDraft_divided)))
    (mf_ChangeDraft_divided : PySem.W.isFn K (.ref a_ChangeDraft_divided) = true)
    (m_ChangeDraft_put_out : PySem.W.findIn K (.ref c_ChangeDraft) "put_out" = some (some (.ref a_ChangeDraft_put_out)))
    (mf_ChangeDraft_put_out : PySem.W.isFn K (.ref a_ChangeDraft_put_out) = true)
    (n_ChangeDraft_lines : PySem.W.findIn K (.ref c_ChangeDraft) "lines" = some none)
    (n_ChangeDraft_inputs : PySem.W.findIn K (.ref c_ChangeDraft) "inputs" = some none)
    (n_ChangeDraft_changes : PySem.W.findIn K (.ref c_ChangeDraft) "changes" = some none)
    (xL_OutOfRange : K.lookup c_OutOfRange = some (excClassObj nm_OutOfRange q_OutOfRange c_OutOfRange N_OutOfRange bs_OutOfRange (twoUp c_Refusal) true sn_OutOfRange sub_OutOfRange ab_OutOfRange col_OutOfRange dd_OutOfRange k0_OutOfRange k1_OutOfRange k2_OutOfRange k3_OutOfRange k5_OutOfRange "Exception.__new__"))
    (sa_OutOfRange : PySem.W.findIn K (.ref c_OutOfRange) "__setattr__" = some (some (.builtin "object.__setattr__")))
    (ty_OutOfRange : PySem.W.typeIn K (.ref c_OutOfRange) = some (.type "type"))
    (kc_OutOfRange : PySem.W.keepIn K (.ref c_OutOfRange) = true)
    (no_OutOfRange : PySem.W.findIn K (.ref c_OutOfRange) "number" = some none)
    (ga_OutOfRange : PySem.W.findIn K (.ref c_OutOfRange) "__getattribute__" = some (some (.builtin "BaseException.__getattribute__")))
    (gg_OutOfRange : PySem.W.findIn K (.ref c_OutOfRange) "__getattr__" = some none)
    (eb_OutOfRange : PySem.W.subIn K (.ref c_OutOfRange) (.type "BaseException") = some true)
    (hd_OutOfRange : PySem.W.hasDictIn K c_OutOfRange = true)
    (su_OutOfRange : PySem.W.subIn K (.ref c_OutOfRange) (.ref c_Refusal) = some true)
    (iC_OutOfRange : PySem.W.findIn K (.ref c_OutOfRange) "__init__" = some (some (.ref a_OutOfRange_init)))
    (tI_OutOfRange : PySem.W.typeIn K (.ref a_OutOfRange_init) = some (.type "function"))
    (xL_BadForm : K.lookup c_BadForm = some (excClassObj nm_BadForm q_BadForm c_BadForm N_BadForm bs_BadForm (twoUp c_Refusal) true sn_BadForm sub_BadForm ab_BadForm col_BadForm dd_BadForm k0_BadForm k1_BadForm k2_BadForm k3_BadForm k5_BadForm "Exception.__new__"))
    (sa_BadForm : PySem.W.findIn K (.ref c_BadForm) "__setattr__" = some (some (.builtin "object.__setattr__")))
    (ty_BadForm : PySem.W.typeIn K (.ref c_BadForm) = some (.type "type"))
    (kc_BadForm : PySem.W.keepIn K (.ref c_BadForm) = true)
    (no_BadForm : PySem.W.findIn K (.ref c_BadForm) "number" = some none)
    (ga_BadForm : PySem.W.findIn K (.ref c_BadForm) "__getattribute__" = some (some (.builtin "BaseException.__getattribute__")))
    (gg_BadForm : PySem.W.findIn K (.ref c_BadForm) "__getattr__" = some none)
    (eb_BadForm : PySem.W.subIn K (.ref c_BadForm) (.type "BaseException") = some true)
    (hd_BadForm : PySem.W.hasDictIn K c_BadForm = true)
    (su_BadForm : PySem.W.subIn K (.ref c_BadForm) (.ref c_Refusal) = some true)
    (iC_BadForm : PySem.W.findIn K (.ref c_BadForm) "__init__" = some (some (.ref a_BadForm_init)))
    (tI_BadForm : PySem.W.typeIn K (.ref a_BadForm_init) = some (.type "function"))
    (xL_NotThere : K.lookup c_NotThere = some (excClassObj nm_NotThere q_NotThere c_NotThere N_NotThere bs_NotThere (twoUp c_Refusal) true sn_NotThere sub_NotThere ab_NotThere col_NotThere dd_NotThere k0_NotThere k1_NotThere k2_NotThere k3_NotThere k5_NotThere "Exception.__new__"))
    (sa_NotThere : PySem.W.findIn K (.ref c_NotThere) "__setattr__" = some (some (.builtin "object.__setattr__")))
    (ty_NotThere : PySem.W.typeIn K (.ref c_NotThere) = some (.type "type"))
    (kc_NotThere : PySem.W.keepIn K (.ref c_NotThere) = true)
    (no_NotThere : PySem.W.findIn K (.ref c_NotThere) "number" = some none)
    (ga_NotThere : PySem.W.findIn K (.ref c_NotThere) "__getattribute__" = some (some (.builtin "BaseException.__getattribute__")))
    (gg_NotThere : PySem.W.findIn K (.ref c_NotThere) "__getattr__" = some none)
    (eb_NotThere : PySem.W.subIn K (.ref c_NotThere) (.type "BaseException") = some true)
    (hd_NotThere : PySem.W.hasDictIn K c_NotThere = true)
    (su_NotThere : PySem.W.subIn K (.ref c_NotThere) (.ref c_Refusal) = some true)
    (iC_NotThere : PySem.W.findIn K (.ref c_NotThere) "__init__" = some (some (.ref a_NotThere_init)))
    (tI_NotThere : PySem.W.typeIn K (.ref a_NotThere_init) = some (.type "function"))
    (xL_TooLarge : K.lookup c_TooLarge = some (excClassObj nm_TooLarge q_TooLarge c_TooLarge N_TooLarge bs_TooLarge (twoUp c_Refusal) true sn_TooLarge sub_TooLarge ab_TooLarge col_TooLarge dd_TooLarge k0_TooLarge k1_TooLarge k2_TooLarge k3_TooLarge k5_TooLarge "Exception.__new__"))
    (sa_TooLarge : PySem.W.findIn K (.ref c_TooLarge) "__setattr__" = some (some (.builtin "object.__setattr__")))
    (ty_TooLarge : PySem.W.typeIn K (.ref c_TooLarge) = some (.type "type"))
    (kc_TooLarge : PySem.W.keepIn K (.ref c_TooLarge) = true)
    (no_TooLarge : PySem.W.findIn K (.ref c_TooLarge) "number" = some none)
    (ga_TooLarge : PySem.W.findIn K (.ref c_TooLarge) "__getattribute__" = some (some (.builtin "BaseException.__getattribute__")))
    (gg_TooLarge : PySem.W.findIn K (.ref c_TooLarge) "__getattr__" = some none)
    (eb_TooLarge : PySem.W.subIn K (.ref c_TooLarge) (.type "BaseException") = some true)
    (hd_TooLarge : PySem.W.hasDictIn K c_TooLarge = true)
    (su_TooLarge : PySem.W.subIn K (.ref c_TooLarge) (.ref c_Refusal) = some true)
    (iC_TooLarge : PySem.W.findIn K (.ref c_TooLarge) "__init__" = some (some (.ref a_TooLarge_init)))
    (tI_TooLarge : PySem.W.typeIn K (.ref a_TooLarge_init) = some (.type "function"))
    (pg_Held : PySem.W.plainGet K c_Held Str.empty = true)
    (hd_Held : PySem.W.hasDictIn K c_Held = true)
    (po_Held : PySem.W.plainOver K c_Held = true)
    (sa_Held : PySem.W.findIn K (.ref c_Held) "__setattr__" = some (some (.builtin "object.__setattr__")))
    (mk_Held : PySem.W.makesIn K c_Held = true)
    (in_Held : PySem.W.findIn K (.ref c_Held) "__init__" = some (some (.ref a_Held_init)))
    (fn_Held : PySem.W.isFn K (.ref a_Held_init) = true)
    (kp_Held : PySem.W.keepIn K (.ref c_Held) = true)
    (m_Held_answer_call : PySem.W.findIn K (.ref c_Held) "answer_call" = some (some (.ref a_Held_answer_call)))
    (mf_Held_answer_call : PySem.W.isFn K (.ref a_Held_answer_call) = true)
    (m_Held_take_code : PySem.W.findIn K (.ref c_Held) "take_code" = some (some (.ref a_Held_take_code)))
    (mf_Held_take_code : PySem.W.isFn K (.ref a_Held_take_code) = true)
    (m_Held_tell_back : PySem.W.findIn K (.ref c_Held) "tell_back" = some (some (.ref a_Held_tell_back)))
    (mf_Held_tell_back : PySem.W.isFn K (.ref a_Held_tell_back) = true)
    (m_Held_tell_ahead : PySem.W.findIn K (.ref c_Held) "tell_ahead" = some (some (.ref a_Held_tell_ahead)))
    (mf_Held_tell_ahead : PySem.W.isFn K (.ref a_Held_tell_ahead) = true)
    (m_Held_adopt_derivative : PySem.W.findIn K (.ref c_Held) "adopt_derivative" = some (some (.ref a_Held_adopt_derivative)))
    (mf_Held_adopt_derivative : PySem.W.isFn K (.ref a_Held_adopt_derivative) = true)
    (m_Held_run_held : PySem.W.findIn K (.ref c_Held) "run_held" = some (some (.ref a_Held_run_held)))
    (mf_Held_run_held : PySem.W.isFn K (.ref a_Held_run_held) = true)
    (m_Held_run_gradient : PySem.W.findIn K (.ref c_Held) "run_gradient" = some (some (.ref a_Held_run_gradient)))
    (mf_Held_run_gradient : PySem.W.isFn K (.ref a_Held_run_gradient) = true)
    (m_Held_run_change : PySem.W.findIn K (.ref c_Held) "run_change" = some (some (.ref a_Held_run_change)))
    (mf_Held_run_change : PySem.W.isFn K (.ref a_Held_run_change) = true)
    (m_Held_tell_ops : PySem.W.findIn K (.ref c_Held) "tell_ops" = some (some (.ref a_Held_tell_ops)))
    (mf_Held_tell_ops : PySem.W.isFn K (.ref a_Held_tell_ops) = true)
    (m_Held_tell_text : PySem.W.findIn K (.ref c_Held) "tell_text" = some (some (.ref a_Held_tell_text)))
    (mf_Held_tell_text : PySem.W.isFn K (.ref a_Held_tell_text) = true)
    (m_Held_tell_needed : PySem.W.findIn K (.ref c_Held) "tell_needed" = some (some (.ref a_Held_tell_needed)))
    (mf_Held_tell_needed : PySem.W.isFn K (.ref a_Held_tell_needed) = true)
    (n_Held_program : PySem.W.findIn K (.ref c_Held) "program" = some none)
    (pg_Taker : PySem.W.plainGet K c_Taker Str.empty = true)
    (hd_Taker : PySem.W.hasDictIn K c_Taker = true)
    (po_Taker : PySem.W.plainOver K c_Taker = true)
    (sa_Taker : PySem.W.findIn K (.ref c_Taker) "__setattr__" = some (some (.builtin "object.__setattr__")))
    (mk_Taker : PySem.W.makesIn K c_Taker = true)
    (in_Taker : PySem.W.findIn K (.ref c_Taker) "__init__" = some (some (.ref a_Taker_init)))
    (fn_Taker : PySem.W.isFn K (.ref a_Taker_init) = true)
    (kp_Taker : PySem.W.keepIn K (.ref c_Taker) = true)
    (m_Taker_is_done : PySem.W.findIn K (.ref c_Taker) "is_done" = some (some (.ref a_Taker_is_done)))
    (mf_Taker_is_done : PySem.W.isFn K (.ref a_Taker_is_done) = true)
    (m_Taker_take : PySem.W.findIn K (.ref c_Taker) "take" = some (some (.ref a_Taker_take)))
    (mf_Taker_take : PySem.W.isFn K (.ref a_Taker_take) = true)
    (m_Taker_take_number : PySem.W.findIn K (.ref c_Taker) "take_number" = some (some (.ref a_Taker_take_number)))
    (mf_Taker_take_number : PySem.W.isFn K (.ref a_Taker_take_number) = true)
    (m_Taker_take_row : PySem.W.findIn K (.ref c_Taker) "take_row" = some (some (.ref a_Taker_take_row)))
    (mf_Taker_take_row : PySem.W.isFn K (.ref a_Taker_take_row) = true)
    (n_Taker_source : PySem.W.findIn K (.ref c_Taker) "source" = some none)
    (n_Taker_place : PySem.W.findIn K (.ref c_Taker) "place" = some none)
    (ic_Refusal : PySem.W.isClsIn K c_Refusal = true)
    (ty_Refusal : PySem.W.typeIn K (.ref c_Refusal) = some (.type "type"))
    (eb_Refusal : PySem.W.subIn K (.ref c_Refusal) (.type "BaseException") = some true)
    (rd_Draft : PySem.W.readsIn K c_Draft (.type "type") = true)
    (sp_Draft : PySem.W.specialIn K (.ref c_Draft) "__getattribute__" = some (some (.builtin "type.__getattribute__")))
    (fc_Draft : PySem.W.findCls K (.ref c_Draft) (.type "type") "__init__" = some (.val (.ref a_Draft_init)))
    (rd_Refusal : PySem.W.readsIn K c_Refusal (.type "type") = true)
    (sp_Refusal : PySem.W.specialIn K (.ref c_Refusal) "__getattribute__" = some (some (.builtin "type.__getattribute__")))
    (fc_Refusal : PySem.W.findCls K (.ref c_Refusal) (.type "type") "__init__" = some (.val (.ref a_Refusal_init)))
    (l_Program_init : K.lookup a_Program_init = some ⟨oc_Program_init, od_Program_init, .func (PySem.W.fnOf "__init__" "Program.__init__" (defArgs s_Program_init) (defBody s_Program_init) (defScope s_Program_init) .none kV_Program_init dc_Program_init pm_Program_init an_Program_init cd_Program_init ct_Program_init), sl_Program_init⟩)
    (cd_ok_Program_init : PySem.W.codeIn K cd_Program_init "Program.__init__" = true)
    (kd_Program_init : PySem.W.keepIn K (.ref a_Program_init) = true)
    (l_Draft_init : K.lookup a_Draft_init = some ⟨oc_Draft_init, od_Draft_init, .func (PySem.W.fnOf "__init__" "Draft.__init__" (defArgs s_Draft_init) (defBody s_Draft_init) (defScope s_Draft_init) .none kV_Draft_init dc_Draft_init pm_Draft_init an_Draft_init cd_Draft_init ct_Draft_init), sl_Draft_init⟩)
    (cd_ok_Draft_init : PySem.W.codeIn K cd_Draft_init "Draft.__init__" = true)
    (kd_Draft_init : PySem.W.keepIn K (.ref a_Draft_init) = true)
    (l_Draft_put : K.lookup a_Draft_put = some ⟨oc_Draft_put, od_Draft_put, .func (PySem.W.fnOf "put" "Draft.put" (defArgs s_Draft_put) (defBody s_Draft_put) (defScope s_Draft_put) .none kV_Draft_put dc_Draft_put pm_Draft_put an_Draft_put cd_Draft_put ct_Draft_put), sl_Draft_put⟩)
    (cd_ok_Draft_put : PySem.W.codeIn K cd_Draft_put "Draft.put" = true)
    (kd_Draft_put : PySem.W.keepIn K (.ref a_Draft_put) = true)
    (l_is_operation : K.lookup a_is_operation = some ⟨oc_is_operation, od_is_operation, .func (PySem.W.fnOf "is_operation" "is_operation" (defArgs s_is_operation) (defBody s_is_operation) (defScope s_is_operation) .none kV_is_operation dc_is_operation pm_is_operation an_is_operation cd_is_operation ct_is_operation), sl_is_operation⟩)
    (cd_ok_is_operation : PySem.W.codeIn K cd_is_operation "is_operation" = true)
    (kd_is_operation : PySem.W.keepIn K (.ref a_is_operation) = true)
    (l_made_of : K.lookup a_made_of = some ⟨oc_made_of, od_made_of, .func (PySem.W.fnOf "made_of" "made_of" (defArgs s_made_of) (defBody s_made_of) (defScope s_made_of) .none kV_made_of dc_made_of pm_made_of an_made_of cd_made_of ct_made_of), sl_made_of⟩)
    (cd_ok_made_of : PySem.W.codeIn K cd_made_of "made_of" = true)
    (kd_made_of : PySem.W.keepIn K (.ref a_made_of) = true)
    (l_operations : K.lookup a_operations = some ⟨oc_operations, od_operations, .func (PySem.W.fnOf "operations" "operations" (defArgs s_operations) (defBody s_operations) (defScope s_operations) .none kV_operations dc_operations pm_operations an_operations cd_operations ct_operations), sl_operations⟩)
    (cd_ok_operations : PySem.W.codeIn K cd_operations "operations" = true)
    (kd_operations : PySem.W.keepIn K (.ref a_operations) = true)
    (l_told : K.lookup a_told = some ⟨oc_told, od_told, .func (PySem.W.fnOf "told" "told" (defArgs s_told) (defBody s_told) (defScope s_told) .none kV_told dc_told pm_told an_told cd_told ct_told), sl_told⟩)
    (cd_ok_told : PySem.W.codeIn K cd_told "told" = true)
    (kd_told : PySem.W.keepIn K (.ref a_told) = true)
    (l_WeightDraft_init : K.lookup a_WeightDraft_init = some ⟨oc_WeightDraft_init, od_WeightDraft_init, .func (PySem.W.fnOf "__init__" "WeightDraft.__init__" (defArgs s_WeightDraft_init) (defBody s_WeightDraft_init) (defScope s_WeightDraft_init) .none kV_WeightDraft_init dc_WeightDraft_init pm_WeightDraft_init an_WeightDraft_init cd_WeightDraft_init ct_WeightDraft_init), sl_WeightDraft_init⟩)
    (cd_ok_WeightDraft_init : PySem.W.codeIn K cd_WeightDraft_init "WeightDraft.__init__" = true)
    (kd_WeightDraft_init : PySem.W.keepIn K (.ref a_WeightDraft_init) = true)
    (l_WeightDraft_weigh : K.lookup a_WeightDraft_weigh = some ⟨oc_WeightDraft_weigh, od_WeightDraft_weigh, .func (PySem.W.fnOf "weigh" "WeightDraft.weigh" (defArgs s_WeightDraft_weigh) (defBody s_WeightDraft_weigh) (defScope s_WeightDraft_weigh) .none kV_WeightDraft_weigh dc_WeightDraft_weigh pm_WeightDraft_weigh an_WeightDraft_weigh cd_WeightDraft_weigh ct_WeightDraft_weigh), sl_WeightDraft_weigh⟩)
    (cd_ok_WeightDraft_weigh : PySem.W.codeIn K cd_WeightDraft_weigh "WeightDraft.weigh" = true)
    (kd_WeightDraft_weigh : PySem.W.keepIn K (.ref a_WeightDraft_weigh) = true)
    (l_WeightDraft_weigh_outs : K.lookup a_WeightDraft_weigh_outs = some ⟨oc_WeightDraft_weigh_outs, od_WeightDraft_weigh_outs, .func (PySem.W.fnOf "weigh_outs" "WeightDraft.weigh_outs" (defArgs s_WeightDraft_weigh_outs) (defBody s_WeightDraft_weigh_outs) (defScope s_WeightDraft_weigh_outs) .none kV_WeightDraft_weigh_outs dc_WeightDraft_weigh_outs pm_WeightDraft_weigh_outs an_WeightDraft_weigh_outs cd_WeightDraft_weigh_outs ct_WeightDraft_weigh_outs), sl_WeightDraft_weigh_outs⟩)
    (cd_ok_WeightDraft_weigh_outs : PySem.W.codeIn K cd_WeightDraft_weigh_outs "WeightDraft.weigh_outs" = true)
    (kd_WeightDraft_weigh_outs : PySem.W.keepIn K (.ref a_WeightDraft_weigh_outs) = true)
    (l_WeightDraft_pass_on : K.lookup a_WeightDraft_pass_on = some ⟨oc_WeightDraft_pass_on, od_WeightDraft_pass_on, .func (PySem.W.fnOf "pass_on" "WeightDraft.pass_on" (defArgs s_WeightDraft_pass_on) (defBody s_WeightDraft_pass_on) (defScope s_WeightDraft_pass_on) .none kV_WeightDraft_pass_on dc_WeightDraft_pass_on pm_WeightDraft_pass_on an_WeightDraft_pass_on cd_WeightDraft_pass_on ct_WeightDraft_pass_on), sl_WeightDraft_pass_on⟩)
    (cd_ok_WeightDraft_pass_on : PySem.W.codeIn K cd_WeightDraft_pass_on "WeightDraft.pass_on" = true)
    (kd_WeightDraft_pass_on : PySem.W.keepIn K (.ref a_WeightDraft_pass_on) = true)
    (l_WeightDraft_pass_on_quotient : K.lookup a_WeightDraft_pass_on_quotient = some ⟨oc_WeightDraft_pass_on_quotient, od_WeightDraft_pass_on_quotient, .func (PySem.W.fnOf "pass_on_quotient" "WeightDraft.pass_on_quotient" (defArgs s_WeightDraft_pass_on_quotient) (defBody s_WeightDraft_pass_on_quotient) (defScope s_WeightDraft_pass_on_quotient) .none kV_WeightDraft_pass_on_quotient dc_WeightDraft_pass_on_quotient pm_WeightDraft_pass_on_quotient an_WeightDraft_pass_on_quotient cd_WeightDraft_pass_on_quotient ct_WeightDraft_pass_on_quotient), sl_WeightDraft_pass_on_quotient⟩)
    (cd_ok_WeightDraft_pass_on_quotient : PySem.W.codeIn K cd_WeightDraft_pass_on_quotient "WeightDraft.pass_on_quotient" = true)
    (kd_WeightDraft_pass_on_quotient : PySem.W.keepIn K (.ref a_WeightDraft_pass_on_quotient) = true)
    (l_WeightDraft_put_sum : K.lookup a_WeightDraft_put_sum = some ⟨oc_WeightDraft_put_sum, od_WeightDraft_put_sum, .func (PySem.W.fnOf "put_sum" "WeightDraft.put_sum" (defArgs s_WeightDraft_put_sum) (defBody s_WeightDraft_put_sum) (defScope s_WeightDraft_put_sum) .none kV_WeightDraft_put_sum dc_WeightDraft_put_sum pm_WeightDraft_put_sum an_WeightDraft_put_sum cd_WeightDraft_put_sum ct_WeightDraft_put_sum), sl_WeightDraft_put_sum⟩)
    (cd_ok_WeightDraft_put_sum : PySem.W.codeIn K cd_WeightDraft_put_sum "WeightDraft.put_sum" = true)
    (kd_WeightDraft_put_sum : PySem.W.keepIn K (.ref a_WeightDraft_put_sum) = true)
    (l_WeightDraft_gather : K.lookup a_WeightDraft_gather = some ⟨oc_WeightDraft_gather, od_WeightDraft_gather, .func (PySem.W.fnOf "gather" "WeightDraft.gather" (defArgs s_WeightDraft_gather) (defBody s_WeightDraft_gather) (defScope s_WeightDraft_gather) .none kV_WeightDraft_gather dc_WeightDraft_gather pm_WeightDraft_gather an_WeightDraft_gather cd_WeightDraft_gather ct_WeightDraft_gather), sl_WeightDraft_gather⟩)
    (cd_ok_WeightDraft_gather : PySem.W.codeIn K cd_WeightDraft_gather "WeightDraft.gather" = true)
    (kd_WeightDraft_gather : PySem.W.keepIn K (.ref a_WeightDraft_gather) = true)
    (l_backward : K.lookup a_backward = some ⟨oc_backward, od_backward, .func (PySem.W.fnOf "backward" "backward" (defArgs s_backward) (defBody s_backward) (defScope s_backward) .none kV_backward dc_backward pm_backward an_backward cd_backward ct_backward), sl_backward⟩)
    (cd_ok_backward : PySem.W.codeIn K cd_backward "backward" = true)
    (kd_backward : PySem.W.keepIn K (.ref a_backward) = true)
    (l_ChangeDraft_init : K.lookup a_ChangeDraft_init = some ⟨oc_ChangeDraft_init, od_ChangeDraft_init, .func (PySem.W.fnOf "__init__" "ChangeDraft.__init__" (defArgs s_ChangeDraft_init) (defBody s_ChangeDraft_init) (defScope s_ChangeDraft_init) .none kV_ChangeDraft_init dc_ChangeDraft_init pm_ChangeDraft_init an_ChangeDraft_init cd_ChangeDraft_init ct_ChangeDraft_init), sl_ChangeDraft_init⟩)
    (cd_ok_ChangeDraft_init : PySem.W.codeIn K cd_ChangeDraft_init "ChangeDraft.__init__" = true)
    (kd_ChangeDraft_init : PySem.W.keepIn K (.ref a_ChangeDraft_init) = true)
    (l_ChangeDraft_put_change : K.lookup a_ChangeDraft_put_change = some ⟨oc_ChangeDraft_put_change, od_ChangeDraft_put_change, .func (PySem.W.fnOf "put_change" "ChangeDraft.put_change" (defArgs s_ChangeDraft_put_change) (defBody s_ChangeDraft_put_change) (defScope s_ChangeDraft_put_change) .none kV_ChangeDraft_put_change dc_ChangeDraft_put_change pm_ChangeDraft_put_change an_ChangeDraft_put_change cd_ChangeDraft_put_change ct_ChangeDraft_put_change), sl_ChangeDraft_put_change⟩)
    (cd_ok_ChangeDraft_put_change : PySem.W.codeIn K cd_ChangeDraft_put_change "ChangeDraft.put_change" = true)
    (kd_ChangeDraft_put_change : PySem.W.keepIn K (.ref a_ChangeDraft_put_change) = true)
    (l_ChangeDraft_opposite_of : K.lookup a_ChangeDraft_opposite_of = some ⟨oc_ChangeDraft_opposite_of, od_ChangeDraft_opposite_of, .func (PySem.W.fnOf "opposite_of" "ChangeDraft.opposite_of" (defArgs s_ChangeDraft_opposite_of) (defBody s_ChangeDraft_opposite_of) (defScope s_ChangeDraft_opposite_of) .none kV_ChangeDraft_opposite_of dc_ChangeDraft_opposite_of pm_ChangeDraft_opposite_of an_ChangeDraft_opposite_of cd_ChangeDraft_opposite_of ct_ChangeDraft_opposite_of), sl_ChangeDraft_opposite_of⟩)
    (cd_ok_ChangeDraft_opposite_of : PySem.W.codeIn K cd_ChangeDraft_opposite_of "ChangeDraft.opposite_of" = true)
    (kd_ChangeDraft_opposite_of : PySem.W.keepIn K (.ref a_ChangeDraft_opposite_of) = true)
    (l_ChangeDraft_change_of_sum : K.lookup a_ChangeDraft_change_of_sum = some ⟨oc_ChangeDraft_change_of_sum, od_ChangeDraft_change_of_sum, .func (PySem.W.fnOf "change_of_sum" "ChangeDraft.change_of_sum" (defArgs s_ChangeDraft_change_of_sum) (defBody s_ChangeDraft_change_of_sum) (defScope s_ChangeDraft_change_of_sum) .none kV_ChangeDraft_change_of_sum dc_ChangeDraft_change_of_sum pm_ChangeDraft_change_of_sum an_ChangeDraft_change_of_sum cd_ChangeDraft_change_of_sum ct_ChangeDraft_change_of_sum), sl_ChangeDraft_change_of_sum⟩)
    (cd_ok_ChangeDraft_change_of_sum : PySem.W.codeIn K cd_ChangeDraft_change_of_sum "ChangeDraft.change_of_sum" = true)
    (kd_ChangeDraft_change_of_sum : PySem.W.keepIn K (.ref a_ChangeDraft_change_of_sum) = true)
    (l_ChangeDraft_change_of_difference : K.lookup a_ChangeDraft_change_of_difference = some ⟨oc_ChangeDraft_change_of_difference, od_ChangeDraft_change_of_difference, .func (PySem.W.fnOf "change_of_difference" "ChangeDraft.change_of_difference" (defArgs s_ChangeDraft_change_of_difference) (defBody s_ChangeDraft_change_of_difference) (defScope s_ChangeDraft_change_of_difference) .none kV_ChangeDraft_change_of_difference dc_ChangeDraft_change_of_difference pm_ChangeDraft_change_of_difference an_ChangeDraft_change_of_difference cd_ChangeDraft_change_of_difference ct_ChangeDraft_change_of_difference), sl_ChangeDraft_change_of_difference⟩)
    (cd_ok_ChangeDraft_change_of_difference : PySem.W.codeIn K cd_ChangeDraft_change_of_difference "ChangeDraft.change_of_difference" = true)
    (kd_ChangeDraft_change_of_difference : PySem.W.keepIn K (.ref a_ChangeDraft_change_of_difference) = true)
    (l_ChangeDraft_change_of_product : K.lookup a_ChangeDraft_change_of_product = some ⟨oc_ChangeDraft_change_of_product, od_ChangeDraft_change_of_product, .func (PySem.W.fnOf "change_of_product" "ChangeDraft.change_of_product" (defArgs s_ChangeDraft_change_of_product) (defBody s_ChangeDraft_change_of_product) (defScope s_ChangeDraft_change_of_product) .none kV_ChangeDraft_change_of_product dc_ChangeDraft_change_of_product pm_ChangeDraft_change_of_product an_ChangeDraft_change_of_product cd_ChangeDraft_change_of_product ct_ChangeDraft_change_of_product), sl_ChangeDraft_change_of_product⟩)
    (cd_ok_ChangeDraft_change_of_product : PySem.W.codeIn K cd_ChangeDraft_change_of_product "ChangeDraft.change_of_product" = true)
    (kd_ChangeDraft_change_of_product : PySem.W.keepIn K (.ref a_ChangeDraft_change_of_product) = true)
    (l_ChangeDraft_change_of_quotient : K.lookup a_ChangeDraft_change_of_quotient = some ⟨oc_ChangeDraft_change_of_quotient, od_ChangeDraft_change_of_quotient, .func (PySem.W.fnOf "change_of_quotient" "ChangeDraft.change_of_quotient" (defArgs s_ChangeDraft_change_of_quotient) (defBody s_ChangeDraft_change_of_quotient) (defScope s_ChangeDraft_change_of_quotient) .none kV_ChangeDraft_change_of_quotient dc_ChangeDraft_change_of_quotient pm_ChangeDraft_change_of_quotient an_ChangeDraft_change_of_quotient cd_ChangeDraft_change_of_quotient ct_ChangeDraft_change_of_quotient), sl_ChangeDraft_change_of_quotient⟩)
    (cd_ok_ChangeDraft_change_of_quotient : PySem.W.codeIn K cd_ChangeDraft_change_of_quotient "ChangeDraft.change_of_quotient" = true)
    (kd_ChangeDraft_change_of_quotient : PySem.W.keepIn K (.ref a_ChangeDraft_change_of_quotient) = true)
    (l_ChangeDraft_divided : K.lookup a_ChangeDraft_divided = some ⟨oc_ChangeDraft_divided, od_ChangeDraft_divided, .func (PySem.W.fnOf "divided" "ChangeDraft.divided" (defArgs s_ChangeDraft_divided) (defBody s_ChangeDraft_divided) (defScope s_ChangeDraft_divided) .none kV_ChangeDraft_divided dc_ChangeDraft_divided pm_ChangeDraft_divided an_ChangeDraft_divided cd_ChangeDraft_divided ct_ChangeDraft_divided), sl_ChangeDraft_divided⟩)
    (cd_ok_ChangeDraft_divided : PySem.W.codeIn K cd_ChangeDraft_divided "ChangeDraft.divided" = true)
    (kd_ChangeDraft_divided : PySem.W.keepIn K (.ref a_ChangeDraft_divided) = true)
    (l_ChangeDraft_put_out : K.lookup a_ChangeDraft_put_out = some ⟨oc_ChangeDraft_put_out, od_ChangeDraft_put_out, .func (PySem.W.fnOf "put_out" "ChangeDraft.put_out" (defArgs s_ChangeDraft_put_out) (defBody s_ChangeDraft_put_out) (defScope s_ChangeDraft_put_out) .none kV_ChangeDraft_put_out dc_ChangeDraft_put_out pm_ChangeDraft_put_out an_ChangeDraft_put_out cd_ChangeDraft_put_out ct_ChangeDraft_put_out), sl_ChangeDraft_put_out⟩)
    (cd_ok_ChangeDraft_put_out : PySem.W.codeIn K cd_ChangeDraft_put_out "ChangeDraft.put_out" = true)
    (kd_ChangeDraft_put_out : PySem.W.keepIn K (.ref a_ChangeDraft_put_out) = true)
    (l_forward : K.lookup a_forward = some ⟨oc_forward, od_forward, .func (PySem.W.fnOf "forward" "forward" (defArgs s_forward) (defBody s_forward) (defScope s_forward) .none kV_forward dc_forward pm_forward an_forward cd_forward ct_forward), sl_forward⟩)
    (cd_ok_forward : PySem.W.codeIn K cd_forward "forward" = true)
    (kd_forward : PySem.W.keepIn K (.ref a_forward) = true)
    (l_common_divisor : K.lookup a_common_divisor = some ⟨oc_common_divisor, od_common_divisor, .func (PySem.W.fnOf "common_divisor" "common_divisor" (defArgs s_common_divisor) (defBody s_common_divisor) (defScope s_common_divisor) .none kV_common_divisor dc_common_divisor pm_common_divisor an_common_divisor cd_common_divisor ct_common_divisor), sl_common_divisor⟩)
    (cd_ok_common_divisor : PySem.W.codeIn K cd_common_divisor "common_divisor" = true)
    (kd_common_divisor : PySem.W.keepIn K (.ref a_common_divisor) = true)
    (l_lowest : K.lookup a_lowest = some ⟨oc_lowest, od_lowest, .func (PySem.W.fnOf "lowest" "lowest" (defArgs s_lowest) (defBody s_lowest) (defScope s_lowest) .none kV_lowest dc_lowest pm_lowest an_lowest cd_lowest ct_lowest), sl_lowest⟩)
    (cd_ok_lowest : PySem.W.codeIn K cd_lowest "lowest" = true)
    (kd_lowest : PySem.W.keepIn K (.ref a_lowest) = true)
    (l_weight : K.lookup a_weight = some ⟨oc_weight, od_weight, .func (PySem.W.fnOf "weight" "weight" (defArgs s_weight) (defBody s_weight) (defScope s_weight) .none kV_weight dc_weight pm_weight an_weight cd_weight ct_weight), sl_weight⟩)
    (cd_ok_weight : PySem.W.codeIn K cd_weight "weight" = true)
    (kd_weight : PySem.W.keepIn K (.ref a_weight) = true)
    (l_opposite : K.lookup a_opposite = some ⟨oc_opposite, od_opposite, .func (PySem.W.fnOf "opposite" "opposite" (defArgs s_opposite) (defBody s_opposite) (defScope s_opposite) .none kV_opposite dc_opposite pm_opposite an_opposite cd_opposite ct_opposite), sl_opposite⟩)
    (cd_ok_opposite : PySem.W.codeIn K cd_opposite "opposite" = true)
    (kd_opposite : PySem.W.keepIn K (.ref a_opposite) = true)
    (l_plus : K.lookup a_plus = some ⟨oc_plus, od_plus, .func (PySem.W.fnOf "plus" "plus" (defArgs s_plus) (defBody s_plus) (defScope s_plus) .none kV_plus dc_plus pm_plus an_plus cd_plus ct_plus), sl_plus⟩)
    (cd_ok_plus : PySem.W.codeIn K cd_plus "plus" = true)
    (kd_plus : PySem.W.keepIn K (.ref a_plus) = true)
    (l_minus : K.lookup a_minus = some ⟨oc_minus, od_minus, .func (PySem.W.fnOf "minus" "minus" (defArgs s_minus) (defBody s_minus) (defScope s_minus) .none kV_minus dc_minus pm_minus an_minus cd_minus ct_minus), sl_minus⟩)
    (cd_ok_minus : PySem.W.codeIn K cd_minus "minus" = true)
    (kd_minus : PySem.W.keepIn K (.ref a_minus) = true)
    (l_times : K.lookup a_times = some ⟨oc_times, od_times, .func (PySem.W.fnOf "times" "times" (defArgs s_times) (defBody s_times) (defScope s_times) .none kV_times dc_times pm_times an_times cd_times ct_times), sl_times⟩)
    (cd_ok_times : PySem.W.codeIn K cd_times "times" = true)
    (kd_times : PySem.W.keepIn K (.ref a_times) = true)
    (l_over : K.lookup a_over = some ⟨oc_over, od_over, .func (PySem.W.fnOf "over" "over" (defArgs s_over) (defBody s_over) (defScope s_over) .none kV_over dc_over pm_over an_over cd_over ct_over), sl_over⟩)
    (cd_ok_over : PySem.W.codeIn K cd_over "over" = true)
    (kd_over : PySem.W.keepIn K (.ref a_over) = true)
    (l_Refusal_init : K.lookup a_Refusal_init = some ⟨oc_Refusal_init, od_Refusal_init, .func (PySem.W.fnOf "__init__" "Refusal.__init__" (defArgs s_Refusal_init) (defBody s_Refusal_init) (defScope s_Refusal_init) .none kV_Refusal_init dc_Refusal_init pm_Refusal_init an_Refusal_init cd_Refusal_init ct_Refusal_init), sl_Refusal_init⟩)
    (cd_ok_Refusal_init : PySem.W.codeIn K cd_Refusal_init "Refusal.__init__" = true)
    (kd_Refusal_init : PySem.W.keepIn K (.ref a_Refusal_init) = true)
    (l_OutOfRange_init : K.lookup a_OutOfRange_init = some ⟨oc_OutOfRange_init, od_OutOfRange_init, .func (PySem.W.fnOf "__init__" "OutOfRange.__init__" (defArgs s_OutOfRange_init) (defBody s_OutOfRange_init) (defScope s_OutOfRange_init) .none kV_OutOfRange_init dc_OutOfRange_init pm_OutOfRange_init an_OutOfRange_init cd_OutOfRange_init ct_OutOfRange_init), sl_OutOfRange_init⟩)
    (cd_ok_OutOfRange_init : PySem.W.codeIn K cd_OutOfRange_init "OutOfRange.__init__" = true)
    (kd_OutOfRange_init : PySem.W.keepIn K (.ref a_OutOfRange_init) = true)
    (l_BadForm_init : K.lookup a_BadForm_init = some ⟨oc_BadForm_init, od_BadForm_init, .func (PySem.W.fnOf "__init__" "BadForm.__init__" (defArgs s_BadForm_init) (defBody s_BadForm_init) (defScope s_BadForm_init) .none kV_BadForm_init dc_BadForm_init pm_BadForm_init an_BadForm_init cd_BadForm_init ct_BadForm_init), sl_BadForm_init⟩)
    (cd_ok_BadForm_init : PySem.W.codeIn K cd_BadForm_init "BadForm.__init__" = true)
    (kd_BadForm_init : PySem.W.keepIn K (.ref a_BadForm_init) = true)
    (l_NotThere_init : K.lookup a_NotThere_init = some ⟨oc_NotThere_init, od_NotThere_init, .func (PySem.W.fnOf "__init__" "NotThere.__init__" (defArgs s_NotThere_init) (defBody s_NotThere_init) (defScope s_NotThere_init) .none kV_NotThere_init dc_NotThere_init pm_NotThere_init an_NotThere_init cd_NotThere_init ct_NotThere_init), sl_NotThere_init⟩)
    (cd_ok_NotThere_init : PySem.W.codeIn K cd_NotThere_init "NotThere.__init__" = true)
    (kd_NotThere_init : PySem.W.keepIn K (.ref a_NotThere_init) = true)
    (l_TooLarge_init : K.lookup a_TooLarge_init = some ⟨oc_TooLarge_init, od_TooLarge_init, .func (PySem.W.fnOf "__init__" "TooLarge.__init__" (defArgs s_TooLarge_init) (defBody s_TooLarge_init) (defScope s_TooLarge_init) .none kV_TooLarge_init dc_TooLarge_init pm_TooLarge_init an_TooLarge_init cd_TooLarge_init ct_TooLarge_init), sl_TooLarge_init⟩)
    (cd_ok_TooLarge_init : PySem.W.codeIn K cd_TooLarge_init "TooLarge.__init__" = true)
    (kd_TooLarge_init : PySem.W.keepIn K (.ref a_TooLarge_init) = true)
    (l_check_choice : K.lookup a_check_choice = some ⟨oc_check_choice, od_check_choice, .func (PySem.W.fnOf "check_choice" "check_choice" (defArgs s_check_choice) (defBody s_check_choice) (defScope s_check_choice) .none kV_check_choice dc_check_choice pm_check_choice an_check_choice cd_check_choice ct_check_choice), sl_check_choice⟩)
    (cd_ok_check_choice : PySem.W.codeIn K cd_check_choice "check_choice" = true)
    (kd_check_choice : PySem.W.keepIn K (.ref a_check_choice) = true)
    (l_read_line : K.lookup a_read_line = some ⟨oc_read_line, od_read_line, .func (PySem.W.fnOf "read_line" "read_line" (defArgs s_read_line) (defBody s_read_line) (defScope s_read_line) .none kV_read_line dc_read_line pm_read_line an_read_line cd_read_line ct_read_line), sl_read_line⟩)
    (cd_ok_read_line : PySem.W.codeIn K cd_read_line "read_line" = true)
    (kd_read_line : PySem.W.keepIn K (.ref a_read_line) = true)
    (l_read_lines : K.lookup a_read_lines = some ⟨oc_read_lines, od_read_lines, .func (PySem.W.fnOf "read_lines" "read_lines" (defArgs s_read_lines) (defBody s_read_lines) (defScope s_read_lines) .none kV_read_lines dc_read_lines pm_read_lines an_read_lines cd_read_lines ct_read_lines), sl_read_lines⟩)
    (cd_ok_read_lines : PySem.W.codeIn K cd_read_lines "read_lines" = true)
    (kd_read_lines : PySem.W.keepIn K (.ref a_read_lines) = true)
    (l_check_uses : K.lookup a_check_uses = some ⟨oc_check_uses, od_check_uses, .func (PySem.W.fnOf "check_uses" "check_uses" (defArgs s_check_uses) (defBody s_check_uses) (defScope s_check_uses) .none kV_check_uses dc_check_uses pm_check_uses an_check_uses cd_check_uses ct_check_uses), sl_check_uses⟩)
    (cd_ok_check_uses : PySem.W.codeIn K cd_check_uses "check_uses" = true)
    (kd_check_uses : PySem.W.keepIn K (.ref a_check_uses) = true)
    (l_check_outs : K.lookup a_check_outs = some ⟨oc_check_outs, od_check_outs, .func (PySem.W.fnOf "check_outs" "check_outs" (defArgs s_check_outs) (defBody s_check_outs) (defScope s_check_outs) .none kV_check_outs dc_check_outs pm_check_outs an_check_outs cd_check_outs ct_check_outs), sl_check_outs⟩)
    (cd_ok_check_outs : PySem.W.codeIn K cd_check_outs "check_outs" = true)
    (kd_check_outs : PySem.W.keepIn K (.ref a_check_outs) = true)
    (l_read_program : K.lookup a_read_program = some ⟨oc_read_program, od_read_program, .func (PySem.W.fnOf "read_program" "read_program" (defArgs s_read_program) (defBody s_read_program) (defScope s_read_program) .none kV_read_program dc_read_program pm_read_program an_read_program cd_read_program ct_read_program), sl_read_program⟩)
    (cd_ok_read_program : PySem.W.codeIn K cd_read_program "read_program" = true)
    (kd_read_program : PySem.W.keepIn K (.ref a_read_program) = true)
    (l_read_fractions : K.lookup a_read_fractions = some ⟨oc_read_fractions, od_read_fractions, .func (PySem.W.fnOf "read_fractions" "read_fractions" (defArgs s_read_fractions) (defBody s_read_fractions) (defScope s_read_fractions) .none kV_read_fractions dc_read_fractions pm_read_fractions an_read_fractions cd_read_fractions ct_read_fractions), sl_read_fractions⟩)
    (cd_ok_read_fractions : PySem.W.codeIn K cd_read_fractions "read_fractions" = true)
    (kd_read_fractions : PySem.W.keepIn K (.ref a_read_fractions) = true)
    (l_worked_out : K.lookup a_worked_out = some ⟨oc_worked_out, od_worked_out, .func (PySem.W.fnOf "worked_out" "worked_out" (defArgs s_worked_out) (defBody s_worked_out) (defScope s_worked_out) .none kV_worked_out dc_worked_out pm_worked_out an_worked_out cd_worked_out ct_worked_out), sl_worked_out⟩)
    (cd_ok_worked_out : PySem.W.codeIn K cd_worked_out "worked_out" = true)
    (kd_worked_out : PySem.W.keepIn K (.ref a_worked_out) = true)
    (l_run : K.lookup a_run = some ⟨oc_run, od_run, .func (PySem.W.fnOf "run" "run" (defArgs s_run) (defBody s_run) (defScope s_run) .none kV_run dc_run pm_run an_run cd_run ct_run), sl_run⟩)
    (cd_ok_run : PySem.W.codeIn K cd_run "run" = true)
    (kd_run : PySem.W.keepIn K (.ref a_run) = true)
    (l_is_too_large : K.lookup a_is_too_large = some ⟨oc_is_too_large, od_is_too_large, .func (PySem.W.fnOf "is_too_large" "is_too_large" (defArgs s_is_too_large) (defBody s_is_too_large) (defScope s_is_too_large) .none kV_is_too_large dc_is_too_large pm_is_too_large an_is_too_large cd_is_too_large ct_is_too_large), sl_is_too_large⟩)
    (cd_ok_is_too_large : PySem.W.codeIn K cd_is_too_large "is_too_large" = true)
    (kd_is_too_large : PySem.W.keepIn K (.ref a_is_too_large) = true)
    (l_check_text : K.lookup a_check_text = some ⟨oc_check_text, od_check_text, .func (PySem.W.fnOf "check_text" "check_text" (defArgs s_check_text) (defBody s_check_text) (defScope s_check_text) .none kV_check_text dc_check_text pm_check_text an_check_text cd_check_text ct_check_text), sl_check_text⟩)
    (cd_ok_check_text : PySem.W.codeIn K cd_check_text "check_text" = true)
    (kd_check_text : PySem.W.keepIn K (.ref a_check_text) = true)
    (l_input_name : K.lookup a_input_name = some ⟨oc_input_name, od_input_name, .func (PySem.W.fnOf "input_name" "input_name" (defArgs s_input_name) (defBody s_input_name) (defScope s_input_name) .none kV_input_name dc_input_name pm_input_name an_input_name cd_input_name ct_input_name), sl_input_name⟩)
    (cd_ok_input_name : PySem.W.codeIn K cd_input_name "input_name" = true)
    (kd_input_name : PySem.W.keepIn K (.ref a_input_name) = true)
    (l_constant_name : K.lookup a_constant_name = some ⟨oc_constant_name, od_constant_name, .func (PySem.W.fnOf "constant_name" "constant_name" (defArgs s_constant_name) (defBody s_constant_name) (defScope s_constant_name) .none kV_constant_name dc_constant_name pm_constant_name an_constant_name cd_constant_name ct_constant_name), sl_constant_name⟩)
    (cd_ok_constant_name : PySem.W.codeIn K cd_constant_name "constant_name" = true)
    (kd_constant_name : PySem.W.keepIn K (.ref a_constant_name) = true)
    (l_line_name : K.lookup a_line_name = some ⟨oc_line_name, od_line_name, .func (PySem.W.fnOf "line_name" "line_name" (defArgs s_line_name) (defBody s_line_name) (defScope s_line_name) .none kV_line_name dc_line_name pm_line_name an_line_name cd_line_name ct_line_name), sl_line_name⟩)
    (cd_ok_line_name : PySem.W.codeIn K cd_line_name "line_name" = true)
    (kd_line_name : PySem.W.keepIn K (.ref a_line_name) = true)
    (l_let_part : K.lookup a_let_part = some ⟨oc_let_part, od_let_part, .func (PySem.W.fnOf "let_part" "let_part" (defArgs s_let_part) (defBody s_let_part) (defScope s_let_part) .none kV_let_part dc_let_part pm_let_part an_let_part cd_let_part ct_let_part), sl_let_part⟩)
    (cd_ok_let_part : PySem.W.codeIn K cd_let_part "let_part" = true)
    (kd_let_part : PySem.W.keepIn K (.ref a_let_part) = true)
    (l_text_of : K.lookup a_text_of = some ⟨oc_text_of, od_text_of, .func (PySem.W.fnOf "text_of" "text_of" (defArgs s_text_of) (defBody s_text_of) (defScope s_text_of) .none kV_text_of dc_text_of pm_text_of an_text_of cd_text_of ct_text_of), sl_text_of⟩)
    (cd_ok_text_of : PySem.W.codeIn K cd_text_of "text_of" = true)
    (kd_text_of : PySem.W.keepIn K (.ref a_text_of) = true)
    (l_needed_ones : K.lookup a_needed_ones = some ⟨oc_needed_ones, od_needed_ones, .func (PySem.W.fnOf "needed_ones" "needed_ones" (defArgs s_needed_ones) (defBody s_needed_ones) (defScope s_needed_ones) .none kV_needed_ones dc_needed_ones pm_needed_ones an_needed_ones cd_needed_ones ct_needed_ones), sl_needed_ones⟩)
    (cd_ok_needed_ones : PySem.W.codeIn K cd_needed_ones "needed_ones" = true)
    (kd_needed_ones : PySem.W.keepIn K (.ref a_needed_ones) = true)
    (l_needed_lines : K.lookup a_needed_lines = some ⟨oc_needed_lines, od_needed_lines, .func (PySem.W.fnOf "needed_lines" "needed_lines" (defArgs s_needed_lines) (defBody s_needed_lines) (defScope s_needed_lines) .none kV_needed_lines dc_needed_lines pm_needed_lines an_needed_lines cd_needed_lines ct_needed_lines), sl_needed_lines⟩)
    (cd_ok_needed_lines : PySem.W.codeIn K cd_needed_lines "needed_lines" = true)
    (kd_needed_lines : PySem.W.keepIn K (.ref a_needed_lines) = true)
    (l_renamed : K.lookup a_renamed = some ⟨oc_renamed, od_renamed, .func (PySem.W.fnOf "renamed" "renamed" (defArgs s_renamed) (defBody s_renamed) (defScope s_renamed) .none kV_renamed dc_renamed pm_renamed an_renamed cd_renamed ct_renamed), sl_renamed⟩)
    (cd_ok_renamed : PySem.W.codeIn K cd_renamed "renamed" = true)
    (kd_renamed : PySem.W.keepIn K (.ref a_renamed) = true)
    (l_trimmed : K.lookup a_trimmed = some ⟨oc_trimmed, od_trimmed, .func (PySem.W.fnOf "trimmed" "trimmed" (defArgs s_trimmed) (defBody s_trimmed) (defScope s_trimmed) .none kV_trimmed dc_trimmed pm_trimmed an_trimmed cd_trimmed ct_trimmed), sl_trimmed⟩)
    (cd_ok_trimmed : PySem.W.codeIn K cd_trimmed "trimmed" = true)
    (kd_trimmed : PySem.W.keepIn K (.ref a_trimmed) = true)
    (l_trimmed_if : K.lookup a_trimmed_if = some ⟨oc_trimmed_if, od_trimmed_if, .func (PySem.W.fnOf "trimmed_if" "trimmed_if" (defArgs s_trimmed_if) (defBody s_trimmed_if) (defScope s_trimmed_if) .none kV_trimmed_if dc_trimmed_if pm_trimmed_if an_trimmed_if cd_trimmed_if ct_trimmed_if), sl_trimmed_if⟩)
    (cd_ok_trimmed_if : PySem.W.codeIn K cd_trimmed_if "trimmed_if" = true)
    (kd_trimmed_if : PySem.W.keepIn K (.ref a_trimmed_if) = true)
    (l_Held_init : K.lookup a_Held_init = some ⟨oc_Held_init, od_Held_init, .func (PySem.W.fnOf "__init__" "Held.__init__" (defArgs s_Held_init) (defBody s_Held_init) (defScope s_Held_init) .none kV_Held_init dc_Held_init pm_Held_init an_Held_init cd_Held_init ct_Held_init), sl_Held_init⟩)
    (cd_ok_Held_init : PySem.W.codeIn K cd_Held_init "Held.__init__" = true)
    (kd_Held_init : PySem.W.keepIn K (.ref a_Held_init) = true)
    (l_Held_answer_call : K.lookup a_Held_answer_call = some ⟨oc_Held_answer_call, od_Held_answer_call, .func (PySem.W.fnOf "answer_call" "Held.answer_call" (defArgs s_Held_answer_call) (defBody s_Held_answer_call) (defScope s_Held_answer_call) .none kV_Held_answer_call dc_Held_answer_call pm_Held_answer_call an_Held_answer_call cd_Held_answer_call ct_Held_answer_call), sl_Held_answer_call⟩)
    (cd_ok_Held_answer_call : PySem.W.codeIn K cd_Held_answer_call "Held.answer_call" = true)
    (kd_Held_answer_call : PySem.W.keepIn K (.ref a_Held_answer_call) = true)
    (l_Held_take_code : K.lookup a_Held_take_code = some ⟨oc_Held_take_code, od_Held_take_code, .func (PySem.W.fnOf "take_code" "Held.take_code" (defArgs s_Held_take_code) (defBody s_Held_take_code) (defScope s_Held_take_code) .none kV_Held_take_code dc_Held_take_code pm_Held_take_code an_Held_take_code cd_Held_take_code ct_Held_take_code), sl_Held_take_code⟩)
    (cd_ok_Held_take_code : PySem.W.codeIn K cd_Held_take_code "Held.take_code" = true)
    (kd_Held_take_code : PySem.W.keepIn K (.ref a_Held_take_code) = true)
    (l_Held_tell_back : K.lookup a_Held_tell_back = some ⟨oc_Held_tell_back, od_Held_tell_back, .func (PySem.W.fnOf "tell_back" "Held.tell_back" (defArgs s_Held_tell_back) (defBody s_Held_tell_back) (defScope s_Held_tell_back) .none kV_Held_tell_back dc_Held_tell_back pm_Held_tell_back an_Held_tell_back cd_Held_tell_back ct_Held_tell_back), sl_Held_tell_back⟩)
    (cd_ok_Held_tell_back : PySem.W.codeIn K cd_Held_tell_back "Held.tell_back" = true)
    (kd_Held_tell_back : PySem.W.keepIn K (.ref a_Held_tell_back) = true)
    (l_Held_tell_ahead : K.lookup a_Held_tell_ahead = some ⟨oc_Held_tell_ahead, od_Held_tell_ahead, .func (PySem.W.fnOf "tell_ahead" "Held.tell_ahead" (defArgs s_Held_tell_ahead) (defBody s_Held_tell_ahead) (defScope s_Held_tell_ahead) .none kV_Held_tell_ahead dc_Held_tell_ahead pm_Held_tell_ahead an_Held_tell_ahead cd_Held_tell_ahead ct_Held_tell_ahead), sl_Held_tell_ahead⟩)
    (cd_ok_Held_tell_ahead : PySem.W.codeIn K cd_Held_tell_ahead "Held.tell_ahead" = true)
    (kd_Held_tell_ahead : PySem.W.keepIn K (.ref a_Held_tell_ahead) = true)
    (l_Held_adopt_derivative : K.lookup a_Held_adopt_derivative = some ⟨oc_Held_adopt_derivative, od_Held_adopt_derivative, .func (PySem.W.fnOf "adopt_derivative" "Held.adopt_derivative" (defArgs s_Held_adopt_derivative) (defBody s_Held_adopt_derivative) (defScope s_Held_adopt_derivative) .none kV_Held_adopt_derivative dc_Held_adopt_derivative pm_Held_adopt_derivative an_Held_adopt_derivative cd_Held_adopt_derivative ct_Held_adopt_derivative), sl_Held_adopt_derivative⟩)
    (cd_ok_Held_adopt_derivative : PySem.W.codeIn K cd_Held_adopt_derivative "Held.adopt_derivative" = true)
    (kd_Held_adopt_derivative : PySem.W.keepIn K (.ref a_Held_adopt_derivative) = true)
    (l_Held_run_held : K.lookup a_Held_run_held = some ⟨oc_Held_run_held, od_Held_run_held, .func (PySem.W.fnOf "run_held" "Held.run_held" (defArgs s_Held_run_held) (defBody s_Held_run_held) (defScope s_Held_run_held) .none kV_Held_run_held dc_Held_run_held pm_Held_run_held an_Held_run_held cd_Held_run_held ct_Held_run_held), sl_Held_run_held⟩)
    (cd_ok_Held_run_held : PySem.W.codeIn K cd_Held_run_held "Held.run_held" = true)
    (kd_Held_run_held : PySem.W.keepIn K (.ref a_Held_run_held) = true)
    (l_Held_run_gradient : K.lookup a_Held_run_gradient = some ⟨oc_Held_run_gradient, od_Held_run_gradient, .func (PySem.W.fnOf "run_gradient" "Held.run_gradient" (defArgs s_Held_run_gradient) (defBody s_Held_run_gradient) (defScope s_Held_run_gradient) .none kV_Held_run_gradient dc_Held_run_gradient pm_Held_run_gradient an_Held_run_gradient cd_Held_run_gradient ct_Held_run_gradient), sl_Held_run_gradient⟩)
    (cd_ok_Held_run_gradient : PySem.W.codeIn K cd_Held_run_gradient "Held.run_gradient" = true)
    (kd_Held_run_gradient : PySem.W.keepIn K (.ref a_Held_run_gradient) = true)
    (l_Held_run_change : K.lookup a_Held_run_change = some ⟨oc_Held_run_change, od_Held_run_change, .func (PySem.W.fnOf "run_change" "Held.run_change" (defArgs s_Held_run_change) (defBody s_Held_run_change) (defScope s_Held_run_change) .none kV_Held_run_change dc_Held_run_change pm_Held_run_change an_Held_run_change cd_Held_run_change ct_Held_run_change), sl_Held_run_change⟩)
    (cd_ok_Held_run_change : PySem.W.codeIn K cd_Held_run_change "Held.run_change" = true)
    (kd_Held_run_change : PySem.W.keepIn K (.ref a_Held_run_change) = true)
    (l_Held_tell_ops : K.lookup a_Held_tell_ops = some ⟨oc_Held_tell_ops, od_Held_tell_ops, .func (PySem.W.fnOf "tell_ops" "Held.tell_ops" (defArgs s_Held_tell_ops) (defBody s_Held_tell_ops) (defScope s_Held_tell_ops) .none kV_Held_tell_ops dc_Held_tell_ops pm_Held_tell_ops an_Held_tell_ops cd_Held_tell_ops ct_Held_tell_ops), sl_Held_tell_ops⟩)
    (cd_ok_Held_tell_ops : PySem.W.codeIn K cd_Held_tell_ops "Held.tell_ops" = true)
    (kd_Held_tell_ops : PySem.W.keepIn K (.ref a_Held_tell_ops) = true)
    (l_Held_tell_text : K.lookup a_Held_tell_text = some ⟨oc_Held_tell_text, od_Held_tell_text, .func (PySem.W.fnOf "tell_text" "Held.tell_text" (defArgs s_Held_tell_text) (defBody s_Held_tell_text) (defScope s_Held_tell_text) .none kV_Held_tell_text dc_Held_tell_text pm_Held_tell_text an_Held_tell_text cd_Held_tell_text ct_Held_tell_text), sl_Held_tell_text⟩)
    (cd_ok_Held_tell_text : PySem.W.codeIn K cd_Held_tell_text "Held.tell_text" = true)
    (kd_Held_tell_text : PySem.W.keepIn K (.ref a_Held_tell_text) = true)
    (l_Held_tell_needed : K.lookup a_Held_tell_needed = some ⟨oc_Held_tell_needed, od_Held_tell_needed, .func (PySem.W.fnOf "tell_needed" "Held.tell_needed" (defArgs s_Held_tell_needed) (defBody s_Held_tell_needed) (defScope s_Held_tell_needed) .none kV_Held_tell_needed dc_Held_tell_needed pm_Held_tell_needed an_Held_tell_needed cd_Held_tell_needed ct_Held_tell_needed), sl_Held_tell_needed⟩)
    (cd_ok_Held_tell_needed : PySem.W.codeIn K cd_Held_tell_needed "Held.tell_needed" = true)
    (kd_Held_tell_needed : PySem.W.keepIn K (.ref a_Held_tell_needed) = true)
    (l_Taker_init : K.lookup a_Taker_init = some ⟨oc_Taker_init, od_Taker_init, .func (PySem.W.fnOf "__init__" "Taker.__init__" (defArgs s_Taker_init) (defBody s_Taker_init) (defScope s_Taker_init) .none kV_Taker_init dc_Taker_init pm_Taker_init an_Taker_init cd_Taker_init ct_Taker_init), sl_Taker_init⟩)
    (cd_ok_Taker_init : PySem.W.codeIn K cd_Taker_init "Taker.__init__" = true)
    (kd_Taker_init : PySem.W.keepIn K (.ref a_Taker_init) = true)
    (l_Taker_is_done : K.lookup a_Taker_is_done = some ⟨oc_Taker_is_done, od_Taker_is_done, .func (PySem.W.fnOf "is_done" "Taker.is_done" (defArgs s_Taker_is_done) (defBody s_Taker_is_done) (defScope s_Taker_is_done) .none kV_Taker_is_done dc_Taker_is_done pm_Taker_is_done an_Taker_is_done cd_Taker_is_done ct_Taker_is_done), sl_Taker_is_done⟩)
    (cd_ok_Taker_is_done : PySem.W.codeIn K cd_Taker_is_done "Taker.is_done" = true)
    (kd_Taker_is_done : PySem.W.keepIn K (.ref a_Taker_is_done) = true)
    (l_Taker_take : K.lookup a_Taker_take = some ⟨oc_Taker_take, od_Taker_take, .func (PySem.W.fnOf "take" "Taker.take" (defArgs s_Taker_take) (defBody s_Taker_take) (defScope s_Taker_take) .none kV_Taker_take dc_Taker_take pm_Taker_take an_Taker_take cd_Taker_take ct_Taker_take), sl_Taker_take⟩)
    (cd_ok_Taker_take : PySem.W.codeIn K cd_Taker_take "Taker.take" = true)
    (kd_Taker_take : PySem.W.keepIn K (.ref a_Taker_take) = true)
    (l_Taker_take_number : K.lookup a_Taker_take_number = some ⟨oc_Taker_take_number, od_Taker_take_number, .func (PySem.W.fnOf "take_number" "Taker.take_number" (defArgs s_Taker_take_number) (defBody s_Taker_take_number) (defScope s_Taker_take_number) .none kV_Taker_take_number dc_Taker_take_number pm_Taker_take_number an_Taker_take_number cd_Taker_take_number ct_Taker_take_number), sl_Taker_take_number⟩)
    (cd_ok_Taker_take_number : PySem.W.codeIn K cd_Taker_take_number "Taker.take_number" = true)
    (kd_Taker_take_number : PySem.W.keepIn K (.ref a_Taker_take_number) = true)
    (l_Taker_take_row : K.lookup a_Taker_take_row = some ⟨oc_Taker_take_row, od_Taker_take_row, .func (PySem.W.fnOf "take_row" "Taker.take_row" (defArgs s_Taker_take_row) (defBody s_Taker_take_row) (defScope s_Taker_take_row) .none kV_Taker_take_row dc_Taker_take_row pm_Taker_take_row an_Taker_take_row cd_Taker_take_row ct_Taker_take_row), sl_Taker_take_row⟩)
    (cd_ok_Taker_take_row : PySem.W.codeIn K cd_Taker_take_row "Taker.take_row" = true)
    (kd_Taker_take_row : PySem.W.keepIn K (.ref a_Taker_take_row) = true)
    (l_answer_next : K.lookup a_answer_next = some ⟨oc_answer_next, od_answer_next, .func (PySem.W.fnOf "answer_next" "answer_next" (defArgs s_answer_next) (defBody s_answer_next) (defScope s_answer_next) .none kV_answer_next dc_answer_next pm_answer_next an_answer_next cd_answer_next ct_answer_next), sl_answer_next⟩)
    (cd_ok_answer_next : PySem.W.codeIn K cd_answer_next "answer_next" = true)
    (kd_answer_next : PySem.W.keepIn K (.ref a_answer_next) = true)
    (l_answers : K.lookup a_answers = some ⟨oc_answers, od_answers, .func (PySem.W.fnOf "answers" "answers" (defArgs s_answers) (defBody s_answers) (defScope s_answers) .none kV_answers dc_answers pm_answers an_answers cd_answers ct_answers), sl_answers⟩)
    (cd_ok_answers : PySem.W.codeIn K cd_answers "answers" = true)
    (kd_answers : PySem.W.keepIn K (.ref a_answers) = true)
    (c_INPUT : PySem.W.nsIn K mainGlobals "INPUT" = some (some (.int 0 tk_INPUT)))
    (c_CONSTANT : PySem.W.nsIn K mainGlobals "CONSTANT" = some (some (.int 1 tk_CONSTANT)))
    (c_SUM : PySem.W.nsIn K mainGlobals "SUM" = some (some (.int 2 tk_SUM)))
    (c_DIFFERENCE : PySem.W.nsIn K mainGlobals "DIFFERENCE" = some (some (.int 3 tk_DIFFERENCE)))
    (c_PRODUCT : PySem.W.nsIn K mainGlobals "PRODUCT" = some (some (.int 4 tk_PRODUCT)))
    (c_QUOTIENT : PySem.W.nsIn K mainGlobals "QUOTIENT" = some (some (.int 5 tk_QUOTIENT)))
    (c_OPPOSITE : PySem.W.nsIn K mainGlobals "OPPOSITE" = some (some (.int 6 tk_OPPOSITE)))
    (c_MOST_INPUTS_reading : PySem.W.nsIn K mainGlobals "MOST_INPUTS_reading" = some (some (.int 12 tk_MOST_INPUTS_reading)))
    (c_MOST_LINES : PySem.W.nsIn K mainGlobals "MOST_LINES" = some (some (.int 80 tk_MOST_LINES)))
    (c_MOST_OUTS_reading : PySem.W.nsIn K mainGlobals "MOST_OUTS_reading" = some (some (.int 6 tk_MOST_OUTS_reading)))
    (c_DIVISOR_IS_ZERO : PySem.W.nsIn K mainGlobals "DIVISOR_IS_ZERO" = some (some (.int 1 tk_DIVISOR_IS_ZERO)))
    (c_TOO_HEAVY : PySem.W.nsIn K mainGlobals "TOO_HEAVY" = some (some (.int 2 tk_TOO_HEAVY)))
    (c_HEAVIEST : PySem.W.nsIn K mainGlobals "HEAVIEST" = some (some (.int 4000 tk_HEAVIEST)))
    (c_MOST_INPUTS_texts : PySem.W.nsIn K mainGlobals "MOST_INPUTS_texts" = some (some (.int 12 tk_MOST_INPUTS_texts)))
    (c_MOST_OUTS_texts : PySem.W.nsIn K mainGlobals "MOST_OUTS_texts" = some (some (.int 12 tk_MOST_OUTS_texts)))
    (c_MOST_OPERATIONS : PySem.W.nsIn K mainGlobals "MOST_OPERATIONS" = some (some (.int 36 tk_MOST_OPERATIONS)))
    (c_TOO_LARGE_A_NUMBER : PySem.W.nsIn K mainGlobals "TOO_LARGE_A_NUMBER" = some (some (.int 1000000000000000000 tk_TOO_LARGE_A_NUMBER)))
    (c_CODE : PySem.W.nsIn K mainGlobals "CODE" = some (some (.int 0 tk_CODE)))
    (c_BACK : PySem.W.nsIn K mainGlobals "BACK" = some (some (.int 1 tk_BACK)))
    (c_AHEAD : PySem.W.nsIn K mainGlobals "AHEAD" = some (some (.int 2 tk_AHEAD)))
    (c_ADOPT : PySem.W.nsIn K mainGlobals "ADOPT" = some (some (.int 3 tk_ADOPT)))
    (c_RUN : PySem.W.nsIn K mainGlobals "RUN" = some (some (.int 4 tk_RUN)))
    (c_GRADIENT : PySem.W.nsIn K mainGlobals "GRADIENT" = some (some (.int 5 tk_GRADIENT)))
    (c_CHANGE : PySem.W.nsIn K mainGlobals "CHANGE" = some (some (.int 6 tk_CHANGE)))
    (c_OPS : PySem.W.nsIn K mainGlobals "OPS" = some (some (.int 7 tk_OPS)))
    (c_TEXT : PySem.W.nsIn K mainGlobals "TEXT" = some (some (.int 8 tk_TEXT)))
    (c_LINES : PySem.W.nsIn K mainGlobals "LINES" = some (some (.int 9 tk_LINES)))
    (c_MOST_ADOPTED_INPUTS : PySem.W.nsIn K mainGlobals "MOST_ADOPTED_INPUTS" = some (some (.int 24 tk_MOST_ADOPTED_INPUTS)))
    (c_MOST_ADOPTED_LINES : PySem.W.nsIn K mainGlobals "MOST_ADOPTED_LINES" = some (some (.int 600 tk_MOST_ADOPTED_LINES)))
    (c_SIZES : PySem.W.nsIn K mainGlobals "SIZES" = some (some (.ref k_SIZES)))
    (lk_SIZES : K.lookup k_SIZES = some ⟨.type "tuple", od_SIZES, .seq #[.int 1 tk_SIZES_0, .int 2 tk_SIZES_1, .int 2 tk_SIZES_2, .int 2 tk_SIZES_3, .int 2 tk_SIZES_4, .int 2 tk_SIZES_5, .int 1 tk_SIZES_6] n_SIZES, sl_SIZES⟩)
    (c_SIGNS : PySem.W.nsIn K mainGlobals "SIGNS" = some (some (.ref k_SIGNS)))
    (lk_SIGNS : K.lookup k_SIGNS = some ⟨.type "tuple", od_SIGNS, .seq #[.str "" tk_SIGNS_0, .str "" tk_SIGNS_1, .str "+" tk_SIGNS_2, .str "-" tk_SIGNS_3, .str "*" tk_SIGNS_4, .str "/" tk_SIGNS_5, .str "-" tk_SIGNS_6] n_SIGNS, sl_SIGNS⟩)
    (c_SHAPES : PySem.W.nsIn K mainGlobals "SHAPES" = some (some (.ref k_SHAPES)))
    (lk_SHAPES : K.lookup k_SHAPES = some ⟨.type "tuple", od_SHAPES, .seq #[.ref k_SHAPES_0, .ref k_SHAPES_1, .ref k_SHAPES_2, .ref k_SHAPES_3, .ref k_SHAPES_4, .ref k_SHAPES_5, .ref k_SHAPES_6, .ref k_SHAPES_7, .ref k_SHAPES_8, .ref k_SHAPES_9, .ref k_SHAPES_10] n_SHAPES, sl_SHAPES⟩)
    (lk_SHAPES_0 : K.lookup k_SHAPES_0 = some ⟨.type "tuple", od_SHAPES_0, .seq #[.int 1 tk_SHAPES_0_0, .int 2 tk_SHAPES_0_1] n_SHAPES_0, sl_SHAPES_0⟩)
    (lk_SHAPES_1 : K.lookup k_SHAPES_1 = some ⟨.type "tuple", od_SHAPES_1, .seq #[.int 1 tk_SHAPES_1_0, .int 0 tk_SHAPES_1_1] n_SHAPES_1, sl_SHAPES_1⟩)
    (lk_SHAPES_2 : K.lookup k_SHAPES_2 = some ⟨.type "tuple", od_SHAPES_2, .seq #[.int 1 tk_SHAPES_2_0, .int 0 tk_SHAPES_2_1] n_SHAPES_2, sl_SHAPES_2⟩)
    (lk_SHAPES_3 : K.lookup k_SHAPES_3 = some ⟨.type "tuple", od_SHAPES_3, .seq #[.int 2 tk_SHAPES_3_0, .int 0 tk_SHAPES_3_1] n_SHAPES_3, sl_SHAPES_3⟩)
    (lk_SHAPES_4 : K.lookup k_SHAPES_4 = some ⟨.type "tuple", od_SHAPES_4, .seq #[.int 0 tk_SHAPES_4_0, .int 1 tk_SHAPES_4_1] n_SHAPES_4, sl_SHAPES_4⟩)
    (lk_SHAPES_5 : K.lookup k_SHAPES_5 = some ⟨.type "tuple", od_SHAPES_5, .seq #[.int 0 tk_SHAPES_5_0, .int 2 tk_SHAPES_5_1] n_SHAPES_5, sl_SHAPES_5⟩)
    (lk_SHAPES_6 : K.lookup k_SHAPES_6 = some ⟨.type "tuple", od_SHAPES_6, .seq #[.int 0 tk_SHAPES_6_0, .int 2 tk_SHAPES_6_1] n_SHAPES_6, sl_SHAPES_6⟩)
    (lk_SHAPES_7 : K.lookup k_SHAPES_7 = some ⟨.type "tuple", od_SHAPES_7, .seq #[.int 0 tk_SHAPES_7_0, .int 0 tk_SHAPES_7_1] n_SHAPES_7, sl_SHAPES_7⟩)
    (lk_SHAPES_8 : K.lookup k_SHAPES_8 = some ⟨.type "tuple", od_SHAPES_8, .seq #[.int 1 tk_SHAPES_8_0, .int 0 tk_SHAPES_8_1] n_SHAPES_8, sl_SHAPES_8⟩)
    (lk_SHAPES_9 : K.lookup k_SHAPES_9 = some ⟨.type "tuple", od_SHAPES_9, .seq #[.int 0 tk_SHAPES_9_0, .int 0 tk_SHAPES_9_1] n_SHAPES_9, sl_SHAPES_9⟩)
    (lk_SHAPES_10 : K.lookup k_SHAPES_10 = some ⟨.type "tuple", od_SHAPES_10, .seq #[.int 0 tk_SHAPES_10_0, .int 0 tk_SHAPES_10_1] n_SHAPES_10, sl_SHAPES_10⟩)
    (exI : PySem.W.findCls K (.type "Exception") (.type "type") "__init__" = some (.val (.builtin "Exception.__init__")))
    (f_Exception : PySem.W.nsIn K mainGlobals "Exception" = some none)
    (f_abs : PySem.W.nsIn K mainGlobals "abs" = some none)
    (f_any : PySem.W.nsIn K mainGlobals "any" = some none)
    (f_enumerate : PySem.W.nsIn K mainGlobals "enumerate" = some none)
    (f_len : PySem.W.nsIn K mainGlobals "len" = some none)
    (f_list : PySem.W.nsIn K mainGlobals "list" = some none)
    (f_max : PySem.W.nsIn K mainGlobals "max" = some none)
    (f_min : PySem.W.nsIn K mainGlobals "min" = some none)
    (f_ord : PySem.W.nsIn K mainGlobals "ord" = some none)
    (f_range : PySem.W.nsIn K mainGlobals "range" = some none)
    (f_tuple : PySem.W.nsIn K mainGlobals "tuple" = some none)
    : ∃ D : Ad, Txt K mg D :=
  ⟨{ a_Program_init := a_Program_init
     a_Draft_init := a_Draft_init
     a_Draft_put := a_Draft_put
     a_is_operation := a_is_operation
     a_made_of := a_made_of
     a_operations := a_operations
     a_told := a_told
     a_WeightDraft_init := a_WeightDraft_init
     a_WeightDraft_weigh := a_WeightDraft_weigh
     a_WeightDraft_weigh_outs := a_WeightDraft_weigh_outs
     a_WeightDraft_pass_on := a_WeightDraft_pass_on
     a_WeightDraft_pass_on_quotient := a_WeightDraft_pass_on_quotient
     a_WeightDraft_put_sum := a_WeightDraft_put_sum
     a_WeightDraft_gather := a_WeightDraft_gather
     a_backward := a_backward
     a_ChangeDraft_init := a_ChangeDraft_init
     a_ChangeDraft_put_change := a_ChangeDraft_put_change
     a_ChangeDraft_opposite_of := a_ChangeDraft_opposite_of
     a_ChangeDraft_change_of_sum := a_ChangeDraft_change_of_sum
     a_ChangeDraft_change_of_difference := a_ChangeDraft_change_of_difference
     a_ChangeDraft_change_of_product := a_ChangeDraft_change_of_product
     a_ChangeDraft_change_of_quotient := a_ChangeDraft_change_of_quotient
     a_ChangeDraft_divided := a_ChangeDraft_divided
     a_ChangeDraft_put_out := a_ChangeDraft_put_out
     a_forward := a_forward
     a_common_divisor := a_common_divisor
     a_lowest := a_lowest
     a_weight := a_weight
     a_opposite := a_opposite
     a_plus := a_plus
     a_minus := a_minus
     a_times := a_times
     a_over := a_over
     a_Refusal_init := a_Refusal_init
     a_OutOfRange_init := a_OutOfRange_init
     a_BadForm_init := a_BadForm_init
     a_NotThere_init := a_NotThere_init
     a_TooLarge_init := a_TooLarge_init
     a_check_choice := a_check_choice
     a_read_line := a_read_line
     a_read_lines := a_read_lines
     a_check_uses := a_check_uses
     a_check_outs := a_check_outs
     a_read_program := a_read_program
     a_read_fractions := a_read_fractions
     a_worked_out := a_worked_out
     a_run := a_run
     a_is_too_large := a_is_too_large
     a_check_text := a_check_text
     a_input_name := a_input_name
     a_constant_name := a_constant_name
     a_line_name := a_line_name
     a_let_part := a_let_part
     a_text_of := a_text_of
     a_needed_ones := a_needed_ones
     a_needed_lines := a_needed_lines
     a_renamed := a_renamed
     a_trimmed := a_trimmed
     a_trimmed_if := a_trimmed_if
     a_Held_init := a_Held_init
     a_Held_answer_call := a_Held_answer_call
     a_Held_take_code := a_Held_take_code
     a_Held_tell_back := a_Held_tell_back
     a_Held_tell_ahead := a_Held_tell_ahead
     a_Held_adopt_derivative := a_Held_adopt_derivative
     a_Held_run_held := a_Held_run_held
     a_Held_run_gradient := a_Held_run_gradient
     a_Held_run_change := a_Held_run_change
     a_Held_tell_ops := a_Held_tell_ops
     a_Held_tell_text := a_Held_tell_text
     a_Held_tell_needed := a_Held_tell_needed
     a_Taker_init := a_Taker_init
     a_Taker_is_done := a_Taker_is_done
     a_Taker_take := a_Taker_take
     a_Taker_take_number := a_Taker_take_number
     a_Taker_take_row := a_Taker_take_row
     a_answer_next := a_answer_next
     a_answers := a_answers
     d_Program_init := PySem.W.fnOf "__init__" "Program.__init__" (defArgs s_Program_init) (defBody s_Program_init) (defScope s_Program_init) .none kV_Program_init dc_Program_init pm_Program_init an_Program_init cd_Program_init ct_Program_init
     d_Draft_init := PySem.W.fnOf "__init__" "Draft.__init__" (defArgs s_Draft_init) (defBody s_Draft_init) (defScope s_Draft_init) .none kV_Draft_init dc_Draft_init pm_Draft_init an_Draft_init cd_Draft_init ct_Draft_init
     d_Draft_put := PySem.W.fnOf "put" "Draft.put" (defArgs s_Draft_put) (defBody s_Draft_put) (defScope s_Draft_put) .none kV_Draft_put dc_Draft_put pm_Draft_put an_Draft_put cd_Draft_put ct_Draft_put
     d_is_operation := PySem.W.fnOf "is_operation" "is_operation" (defArgs s_is_operation) (defBody s_is_operation) (defScope s_is_operation) .none kV_is_operation dc_is_operation pm_is_operation an_is_operation cd_is_operation ct_is_operation
     d_made_of := PySem.W.fnOf "made_of" "made_of" (defArgs s_made_of) (defBody s_made_of) (defScope s_made_of) .none kV_made_of dc_made_of pm_made_of an_made_of cd_made_of ct_made_of
     d_operations := PySem.W.fnOf "operations" "operations" (defArgs s_operations) (defBody s_operations) (defScope s_operations) .none kV_operations dc_operations pm_operations an_operations cd_operations ct_operations
     d_told := PySem.W.fnOf "told" "told" (defArgs s_told) (defBody s_told) (defScope s_told) .none kV_told dc_told pm_told an_told cd_told ct_told
     d_WeightDraft_init := PySem.W.fnOf "__init__" "WeightDraft.__init__" (defArgs s_WeightDraft_init) (defBody s_WeightDraft_init) (defScope s_WeightDraft_init) .none kV_WeightDraft_init dc_WeightDraft_init pm_WeightDraft_init an_WeightDraft_init cd_WeightDraft_init ct_WeightDraft_init
     d_WeightDraft_weigh := PySem.W.fnOf "weigh" "WeightDraft.weigh" (defArgs s_WeightDraft_weigh) (defBody s_WeightDraft_weigh) (defScope s_WeightDraft_weigh) .none kV_WeightDraft_weigh dc_WeightDraft_weigh pm_WeightDraft_weigh an_WeightDraft_weigh cd_WeightDraft_weigh ct_WeightDraft_weigh
     d_WeightDraft_weigh_outs := PySem.W.fnOf "weigh_outs" "WeightDraft.weigh_outs" (defArgs s_WeightDraft_weigh_outs) (defBody s_WeightDraft_weigh_outs) (defScope s_WeightDraft_weigh_outs) .none kV_WeightDraft_weigh_outs dc_WeightDraft_weigh_outs pm_WeightDraft_weigh_outs an_WeightDraft_weigh_outs cd_WeightDraft_weigh_outs ct_WeightDraft_weigh_outs
     d_WeightDraft_pass_on := PySem.W.fnOf "pass_on" "WeightDraft.pass_on" (defArgs s_WeightDraft_pass_on) (defBody s_WeightDraft_pass_on) (defScope s_WeightDraft_pass_on) .none kV_WeightDraft_pass_on dc_WeightDraft_pass_on pm_WeightDraft_pass_on an_WeightDraft_pass_on cd_WeightDraft_pass_on ct_WeightDraft_pass_on
     d_WeightDraft_pass_on_quotient := PySem.W.fnOf "pass_on_quotient" "WeightDraft.pass_on_quotient" (defArgs s_WeightDraft_pass_on_quotient) (defBody s_WeightDraft_pass_on_quotient) (defScope s_WeightDraft_pass_on_quotient) .none kV_WeightDraft_pass_on_quotient dc_WeightDraft_pass_on_quotient pm_WeightDraft_pass_on_quotient an_WeightDraft_pass_on_quotient cd_WeightDraft_pass_on_quotient ct_WeightDraft_pass_on_quotient
     d_WeightDraft_put_sum := PySem.W.fnOf "put_sum" "WeightDraft.put_sum" (defArgs s_WeightDraft_put_sum) (defBody s_WeightDraft_put_sum) (defScope s_WeightDraft_put_sum) .none kV_WeightDraft_put_sum dc_WeightDraft_put_sum pm_WeightDraft_put_sum an_WeightDraft_put_sum cd_WeightDraft_put_sum ct_WeightDraft_put_sum
     d_WeightDraft_gather := PySem.W.fnOf "gather" "WeightDraft.gather" (defArgs s_WeightDraft_gather) (defBody s_WeightDraft_gather) (defScope s_WeightDraft_gather) .none kV_WeightDraft_gather dc_WeightDraft_gather pm_WeightDraft_gather an_WeightDraft_gather cd_WeightDraft_gather ct_WeightDraft_gather
     d_backward := PySem.W.fnOf "backward" "backward" (defArgs s_backward) (defBody s_backward) (defScope s_backward) .none kV_backward dc_backward pm_backward an_backward cd_backward ct_backward
     d_ChangeDraft_init := PySem.W.fnOf "__init__" "ChangeDraft.__init__" (defArgs s_ChangeDraft_init) (defBody s_ChangeDraft_init) (defScope s_ChangeDraft_init) .none kV_ChangeDraft_init dc_ChangeDraft_init pm_ChangeDraft_init an_ChangeDraft_init cd_ChangeDraft_init ct_ChangeDraft_init
     d_ChangeDraft_put_change := PySem.W.fnOf "put_change" "ChangeDraft.put_change" (defArgs s_ChangeDraft_put_change) (defBody s_ChangeDraft_put_change) (defScope s_ChangeDraft_put_change) .none kV_ChangeDraft_put_change dc_ChangeDraft_put_change pm_ChangeDraft_put_change an_ChangeDraft_put_change cd_ChangeDraft_put_change ct_ChangeDraft_put_change
     d_ChangeDraft_opposite_of := PySem.W.fnOf "opposite_of" "ChangeDraft.opposite_of" (defArgs s_ChangeDraft_opposite_of) (defBody s_ChangeDraft_opposite_of) (defScope s_ChangeDraft_opposite_of) .none kV_ChangeDraft_opposite_of dc_ChangeDraft_opposite_of pm_ChangeDraft_opposite_of an_ChangeDraft_opposite_of cd_ChangeDraft_opposite_of ct_ChangeDraft_opposite_of
     d_ChangeDraft_change_of_sum := PySem.W.fnOf "change_of_sum" "ChangeDraft.change_of_sum" (defArgs s_ChangeDraft_change_of_sum) (defBody s_ChangeDraft_change_of_sum) (defScope s_ChangeDraft_change_of_sum) .none kV_ChangeDraft_change_of_sum dc_ChangeDraft_change_of_sum pm_ChangeDraft_change_of_sum an_ChangeDraft_change_of_sum cd_ChangeDraft_change_of_sum ct_ChangeDraft_change_of_sum
     d_ChangeDraft_change_of_difference := PySem.W.fnOf "change_of_difference" "ChangeDraft.change_of_difference" (defArgs s_ChangeDraft_change_of_difference) (defBody s_ChangeDraft_change_of_difference) (defScope s_ChangeDraft_change_of_difference) .none kV_ChangeDraft_change_of_difference dc_ChangeDraft_change_of_difference pm_ChangeDraft_change_of_difference an_ChangeDraft_change_of_difference cd_ChangeDraft_change_of_difference ct_ChangeDraft_change_of_difference
     d_ChangeDraft_change_of_product := PySem.W.fnOf "change_of_product" "ChangeDraft.change_of_product" (defArgs s_ChangeDraft_change_of_product) (defBody s_ChangeDraft_change_of_product) (defScope s_ChangeDraft_change_of_product) .none kV_ChangeDraft_change_of_product dc_ChangeDraft_change_of_product pm_ChangeDraft_change_of_product an_ChangeDraft_change_of_product cd_ChangeDraft_change_of_product ct_ChangeDraft_change_of_product
     d_ChangeDraft_change_of_quotient := PySem.W.fnOf "change_of_quotient" "ChangeDraft.change_of_quotient" (defArgs s_ChangeDraft_change_of_quotient) (defBody s_ChangeDraft_change_of_quotient) (defScope s_ChangeDraft_change_of_quotient) .none kV_ChangeDraft_change_of_quotient dc_ChangeDraft_change_of_quotient pm_ChangeDraft_change_of_quotient an_ChangeDraft_change_of_quotient cd_ChangeDraft_change_of_quotient ct_ChangeDraft_change_of_quotient
     d_ChangeDraft_divided := PySem.W.fnOf "divided" "ChangeDraft.divided" (defArgs s_ChangeDraft_divided) (defBody s_ChangeDraft_divided) (defScope s_ChangeDraft_divided) .none kV_ChangeDraft_divided dc_ChangeDraft_divided pm_ChangeDraft_divided an_ChangeDraft_divided cd_ChangeDraft_divided ct_ChangeDraft_divided
     d_ChangeDraft_put_out := PySem.W.fnOf "put_out" "ChangeDraft.put_out" (defArgs s_ChangeDraft_put_out) (defBody s_ChangeDraft_put_out) (defScope s_ChangeDraft_put_out) .none kV_ChangeDraft_put_out dc_ChangeDraft_put_out pm_ChangeDraft_put_out an_ChangeDraft_put_out cd_ChangeDraft_put_out ct_ChangeDraft_put_out
     d_forward := PySem.W.fnOf "forward" "forward" (defArgs s_forward) (defBody s_forward) (defScope s_forward) .none kV_forward dc_forward pm_forward an_forward cd_forward ct_forward
     d_common_divisor := PySem.W.fnOf "common_divisor" "common_divisor" (defArgs s_common_divisor) (defBody s_common_divisor) (defScope s_common_divisor) .none kV_common_divisor dc_common_divisor pm_common_divisor an_common_divisor cd_common_divisor ct_common_divisor
     d_lowest := PySem.W.fnOf "lowest" "lowest" (defArgs s_lowest) (defBody s_lowest) (defScope s_lowest) .none kV_lowest dc_lowest pm_lowest an_lowest cd_lowest ct_lowest
     d_weight := PySem.W.fnOf "weight" "weight" (defArgs s_weight) (defBody s_weight) (defScope s_weight) .none kV_weight dc_weight pm_weight an_weight cd_weight ct_weight
     d_opposite := PySem.W.fnOf "opposite" "opposite" (defArgs s_opposite) (defBody s_opposite) (defScope s_opposite) .none kV_opposite dc_opposite pm_opposite an_opposite cd_opposite ct_opposite
     d_plus := PySem.W.fnOf "plus" "plus" (defArgs s_plus) (defBody s_plus) (defScope s_plus) .none kV_plus dc_plus pm_plus an_plus cd_plus ct_plus
     d_minus := PySem.W.fnOf "minus" "minus" (defArgs s_minus) (defBody s_minus) (defScope s_minus) .none kV_minus dc_minus pm_minus an_minus cd_minus ct_minus
     d_times := PySem.W.fnOf "times" "times" (defArgs s_times) (defBody s_times) (defScope s_times) .none kV_times dc_times pm_times an_times cd_times ct_times
     d_over := PySem.W.fnOf "over" "over" (defArgs s_over) (defBody s_over) (defScope s_over) .none kV_over dc_over pm_over an_over cd_over ct_over
     d_Refusal_init := PySem.W.fnOf "__init__" "Refusal.__init__" (defArgs s_Refusal_init) (defBody s_Refusal_init) (defScope s_Refusal_init) .none kV_Refusal_init dc_Refusal_init pm_Refusal_init an_Refusal_init cd_Refusal_init ct_Refusal_init
     d_OutOfRange_init := PySem.W.fnOf "__init__" "OutOfRange.__init__" (defArgs s_OutOfRange_init) (defBody s_OutOfRange_init) (defScope s_OutOfRange_init) .none kV_OutOfRange_init dc_OutOfRange_init pm_OutOfRange_init an_OutOfRange_init cd_OutOfRange_init ct_OutOfRange_init
     d_BadForm_init := PySem.W.fnOf "__init__" "BadForm.__init__" (defArgs s_BadForm_init) (defBody s_BadForm_init) (defScope s_BadForm_init) .none kV_BadForm_init dc_BadForm_init pm_BadForm_init an_BadForm_init cd_BadForm_init ct_BadForm_init
     d_NotThere_init := PySem.W.fnOf "__init__" "NotThere.__init__" (defArgs s_NotThere_init) (defBody s_NotThere_init) (defScope s_NotThere_init) .none kV_NotThere_init dc_NotThere_init pm_NotThere_init an_NotThere_init cd_NotThere_init ct_NotThere_init
     d_TooLarge_init := PySem.W.fnOf "__init__" "TooLarge.__init__" (defArgs s_TooLarge_init) (defBody s_TooLarge_init) (defScope s_TooLarge_init) .none kV_TooLarge_init dc_TooLarge_init pm_TooLarge_init an_TooLarge_init cd_TooLarge_init ct_TooLarge_init
     d_check_choice := PySem.W.fnOf "check_choice" "check_choice" (defArgs s_check_choice) (defBody s_check_choice) (defScope s_check_choice) .none kV_check_choice dc_check_choice pm_check_choice an_check_choice cd_check_choice ct_check_choice
     d_read_line := PySem.W.fnOf "read_line" "read_line" (defArgs s_read_line) (defBody s_read_line) (defScope s_read_line) .none kV_read_line dc_read_line pm_read_line an_read_line cd_read_line ct_read_line
     d_read_lines := PySem.W.fnOf "read_lines" "read_lines" (defArgs s_read_lines) (defBody s_read_lines) (defScope s_read_lines) .none kV_read_lines dc_read_lines pm_read_lines an_read_lines cd_read_lines ct_read_lines
     d_check_uses := PySem.W.fnOf "check_uses" "check_uses" (defArgs s_check_uses) (defBody s_check_uses) (defScope s_check_uses) .none kV_check_uses dc_check_uses pm_check_uses an_check_uses cd_check_uses ct_check_uses
     d_check_outs := PySem.W.fnOf "check_outs" "check_outs" (defArgs s_check_outs) (defBody s_check_outs) (defScope s_check_outs) .none kV_check_outs dc_check_outs pm_check_outs an_check_outs cd_check_outs ct_check_outs
     d_read_program := PySem.W.fnOf "read_program" "read_program" (defArgs s_read_program) (defBody s_read_program) (defScope s_read_program) .none kV_read_program dc_read_program pm_read_program an_read_program cd_read_program ct_read_program
     d_read_fractions := PySem.W.fnOf "read_fractions" "read_fractions" (defArgs s_read_fractions) (defBody s_read_fractions) (defScope s_read_fractions) .none kV_read_fractions dc_read_fractions pm_read_fractions an_read_fractions cd_read_fractions ct_read_fractions
     d_worked_out := PySem.W.fnOf "worked_out" "worked_out" (defArgs s_worked_out) (defBody s_worked_out) (defScope s_worked_out) .none kV_worked_out dc_worked_out pm_worked_out an_worked_out cd_worked_out ct_worked_out
     d_run := PySem.W.fnOf "run" "run" (defArgs s_run) (defBody s_run) (defScope s_run) .none kV_run dc_run pm_run an_run cd_run ct_run
     d_is_too_large := PySem.W.fnOf "is_too_large" "is_too_large" (defArgs s_is_too_large) (defBody s_is_too_large) (defScope s_is_too_large) .none kV_is_too_large dc_is_too_large pm_is_too_large an_is_too_large cd_is_too_large ct_is_too_large
     d_check_text := PySem.W.fnOf "check_text" "check_text" (defArgs s_check_text) (defBody s_check_text) (defScope s_check_text) .none kV_check_text dc_check_text pm_check_text an_check_text cd_check_text ct_check_text
     d_input_name := PySem.W.fnOf "input_name" "input_name" (defArgs s_input_name) (defBody s_input_name) (defScope s_input_name) .none kV_input_name dc_input_name pm_input_name an_input_name cd_input_name ct_input_name
     d_constant_name := PySem.W.fnOf "constant_name" "constant_name" (defArgs s_constant_name) (defBody s_constant_name) (defScope s_constant_name) .none kV_constant_name dc_constant_name pm_constant_name an_constant_name cd_constant_name ct_constant_name
     d_line_name := PySem.W.fnOf "line_name" "line_name" (defArgs s_line_name) (defBody s_line_name) (defScope s_line_name) .none kV_line_name dc_line_name pm_line_name an_line_name cd_line_name ct_line_name
     d_let_part := PySem.W.fnOf "let_part" "let_part" (defArgs s_let_part) (defBody s_let_part) (defScope s_let_part) .none kV_let_part dc_let_part pm_let_part an_let_part cd_let_part ct_let_part
     d_text_of := PySem.W.fnOf "text_of" "text_of" (defArgs s_text_of) (defBody s_text_of) (defScope s_text_of) .none kV_text_of dc_text_of pm_text_of an_text_of cd_text_of ct_text_of
     d_needed_ones := PySem.W.fnOf "needed_ones" "needed_ones" (defArgs s_needed_ones) (defBody s_needed_ones) (defScope s_needed_ones) .none kV_needed_ones dc_needed_ones pm_needed_ones an_needed_ones cd_needed_ones ct_needed_ones
     d_needed_lines := PySem.W.fnOf "needed_lines" "needed_lines" (defArgs s_needed_lines) (defBody s_needed_lines) (defScope s_needed_lines) .none kV_needed_lines dc_needed_lines pm_needed_lines an_needed_lines cd_needed_lines ct_needed_lines
     d_renamed := PySem.W.fnOf "renamed" "renamed" (defArgs s_renamed) (defBody s_renamed) (defScope s_renamed) .none kV_renamed dc_renamed pm_renamed an_renamed cd_renamed ct_renamed
     d_trimmed := PySem.W.fnOf "trimmed" "trimmed" (defArgs s_trimmed) (defBody s_trimmed) (defScope s_trimmed) .none kV_trimmed dc_trimmed pm_trimmed an_trimmed cd_trimmed ct_trimmed
     d_trimmed_if := PySem.W.fnOf "trimmed_if" "trimmed_if" (defArgs s_trimmed_if) (defBody s_trimmed_if) (defScope s_trimmed_if) .none kV_trimmed_if dc_trimmed_if pm_trimmed_if an_trimmed_if cd_trimmed_if ct_trimmed_if
     d_Held_init := PySem.W.fnOf "__init__" "Held.__init__" (defArgs s_Held_init) (defBody s_Held_init) (defScope s_Held_init) .none kV_Held_init dc_Held_init pm_Held_init an_Held_init cd_Held_init ct_Held_init
     d_Held_answer_call := PySem.W.fnOf "answer_call" "Held.answer_call" (defArgs s_Held_answer_call) (defBody s_Held_answer_call) (defScope s_Held_answer_call) .none kV_Held_answer_call dc_Held_answer_call pm_Held_answer_call an_Held_answer_call cd_Held_answer_call ct_Held_answer_call
     d_Held_take_code := PySem.W.fnOf "take_code" "Held.take_code" (defArgs s_Held_take_code) (defBody s_Held_take_code) (defScope s_Held_take_code) .none kV_Held_take_code dc_Held_take_code pm_Held_take_code an_Held_take_code cd_Held_take_code ct_Held_take_code
     d_Held_tell_back := PySem.W.fnOf "tell_back" "Held.tell_back" (defArgs s_Held_tell_back) (defBody s_Held_tell_back) (defScope s_Held_tell_back) .none kV_Held_tell_back dc_Held_tell_back pm_Held_tell_back an_Held_tell_back cd_Held_tell_back ct_Held_tell_back
     d_Held_tell_ahead := PySem.W.fnOf "tell_ahead" "Held.tell_ahead" (defArgs s_Held_tell_ahead) (defBody s_Held_tell_ahead) (defScope s_Held_tell_ahead) .none kV_Held_tell_ahead dc_Held_tell_ahead pm_Held_tell_ahead an_Held_tell_ahead cd_Held_tell_ahead ct_Held_tell_ahead
     d_Held_adopt_derivative := PySem.W.fnOf "adopt_derivative" "Held.adopt_derivative" (defArgs s_Held_adopt_derivative) (defBody s_Held_adopt_derivative) (defScope s_Held_adopt_derivative) .none kV_Held_adopt_derivative dc_Held_adopt_derivative pm_Held_adopt_derivative an_Held_adopt_derivative cd_Held_adopt_derivative ct_Held_adopt_derivative
     d_Held_run_held := PySem.W.fnOf "run_held" "Held.run_held" (defArgs s_Held_run_held) (defBody s_Held_run_held) (defScope s_Held_run_held) .none kV_Held_run_held dc_Held_run_held pm_Held_run_held an_Held_run_held cd_Held_run_held ct_Held_run_held
     d_Held_run_gradient := PySem.W.fnOf "run_gradient" "Held.run_gradient" (defArgs s_Held_run_gradient) (defBody s_Held_run_gradient) (defScope s_Held_run_gradient) .none kV_Held_run_gradient dc_Held_run_gradient pm_Held_run_gradient an_Held_run_gradient cd_Held_run_gradient ct_Held_run_gradient
     d_Held_run_change := PySem.W.fnOf "run_change" "Held.run_change" (defArgs s_Held_run_change) (defBody s_Held_run_change) (defScope s_Held_run_change) .none kV_Held_run_change dc_Held_run_change pm_Held_run_change an_Held_run_change cd_Held_run_change ct_Held_run_change
     d_Held_tell_ops := PySem.W.fnOf "tell_ops" "Held.tell_ops" (defArgs s_Held_tell_ops) (defBody s_Held_tell_ops) (defScope s_Held_tell_ops) .none kV_Held_tell_ops dc_Held_tell_ops pm_Held_tell_ops an_Held_tell_ops cd_Held_tell_ops ct_Held_tell_ops
     d_Held_tell_text := PySem.W.fnOf "tell_text" "Held.tell_text" (defArgs s_Held_tell_text) (defBody s_Held_tell_text) (defScope s_Held_tell_text) .none kV_Held_tell_text dc_Held_tell_text pm_Held_tell_text an_Held_tell_text cd_Held_tell_text ct_Held_tell_text
     d_Held_tell_needed := PySem.W.fnOf "tell_needed" "Held.tell_needed" (defArgs s_Held_tell_needed) (defBody s_Held_tell_needed) (defScope s_Held_tell_needed) .none kV_Held_tell_needed dc_Held_tell_needed pm_Held_tell_needed an_Held_tell_needed cd_Held_tell_needed ct_Held_tell_needed
     d_Taker_init := PySem.W.fnOf "__init__" "Taker.__init__" (defArgs s_Taker_init) (defBody s_Taker_init) (defScope s_Taker_init) .none kV_Taker_init dc_Taker_init pm_Taker_init an_Taker_init cd_Taker_init ct_Taker_init
     d_Taker_is_done := PySem.W.fnOf "is_done" "Taker.is_done" (defArgs s_Taker_is_done) (defBody s_Taker_is_done) (defScope s_Taker_is_done) .none kV_Taker_is_done dc_Taker_is_done pm_Taker_is_done an_Taker_is_done cd_Taker_is_done ct_Taker_is_done
     d_Taker_take := PySem.W.fnOf "take" "Taker.take" (defArgs s_Taker_take) (defBody s_Taker_take) (defScope s_Taker_take) .none kV_Taker_take dc_Taker_take pm_Taker_take an_Taker_take cd_Taker_take ct_Taker_take
     d_Taker_take_number := PySem.W.fnOf "take_number" "Taker.take_number" (defArgs s_Taker_take_number) (defBody s_Taker_take_number) (defScope s_Taker_take_number) .none kV_Taker_take_number dc_Taker_take_number pm_Taker_take_number an_Taker_take_number cd_Taker_take_number ct_Taker_take_number
     d_Taker_take_row := PySem.W.fnOf "take_row" "Taker.take_row" (defArgs s_Taker_take_row) (defBody s_Taker_take_row) (defScope s_Taker_take_row) .none kV_Taker_take_row dc_Taker_take_row pm_Taker_take_row an_Taker_take_row cd_Taker_take_row ct_Taker_take_row
     d_answer_next := PySem.W.fnOf "answer_next" "answer_next" (defArgs s_answer_next) (defBody s_answer_next) (defScope s_answer_next) .none kV_answer_next dc_answer_next pm_answer_next an_answer_next cd_answer_next ct_answer_next
     d_answers := PySem.W.fnOf "answers" "answers" (defArgs s_answers) (defBody s_answers) (defScope s_answers) .none kV_answers dc_answers pm_answers an_answers cd_answers ct_answers
     c_Program := c_Program
     c_Draft := c_Draft
     c_WeightDraft := c_WeightDraft
     c_ChangeDraft := c_ChangeDraft
     c_Refusal := c_Refusal
     c_OutOfRange := c_OutOfRange
     c_BadForm := c_BadForm
     c_NotThere := c_NotThere
     c_TooLarge := c_TooLarge
     c_Held := c_Held
     c_Taker := c_Taker
     k_SIZES := k_SIZES
     k_SIGNS := k_SIGNS
     k_SHAPES := k_SHAPES
     k_SHAPES_0 := k_SHAPES_0
     k_SHAPES_1 := k_SHAPES_1
     k_SHAPES_2 := k_SHAPES_2
     k_SHAPES_3 := k_SHAPES_3
     k_SHAPES_4 := k_SHAPES_4
     k_SHAPES_5 := k_SHAPES_5
     k_SHAPES_6 := k_SHAPES_6
     k_SHAPES_7 := k_SHAPES_7
     k_SHAPES_8 := k_SHAPES_8
     k_SHAPES_9 := k_SHAPES_9
     k_SHAPES_10 := k_SHAPES_10 },
   { g_Program := PySem.W.mg_of X G g_Program
     g_Draft := PySem.W.mg_of X G g_Draft
     g_WeightDraft := PySem.W.mg_of X G g_WeightDraft
     g_ChangeDraft := PySem.W.mg_of X G g_ChangeDraft
     g_Refusal := PySem.W.mg_of X G g_Refusal
     g_OutOfRange := PySem.W.mg_of X G g_OutOfRange
     g_BadForm := PySem.W.mg_of X G g_BadForm
     g_NotThere := PySem.W.mg_of X G g_NotThere
     g_TooLarge := PySem.W.mg_of X G g_TooLarge
     g_Held := PySem.W.mg_of X G g_Held
     g_Taker := PySem.W.mg_of X G g_Taker
     g_is_operation := PySem.W.mg_of X G g_is_operation
     g_made_of := PySem.W.mg_of X G g_made_of
     g_operations := PySem.W.mg_of X G g_operations
     g_told := PySem.W.mg_of X G g_told
     g_backward := PySem.W.mg_of X G g_backward
     g_forward := PySem.W.mg_of X G g_forward
     g_common_divisor := PySem.W.mg_of X G g_common_divisor
     g_lowest := PySem.W.mg_of X G g_lowest
     g_weight := PySem.W.mg_of X G g_weight
     g_opposite := PySem.W.mg_of X G g_opposite
     g_plus := PySem.W.mg_of X G g_plus
     g_minus := PySem.W.mg_of X G g_minus
     g_times := PySem.W.mg_of X G g_times
     g_over := PySem.W.mg_of X G g_over
     g_check_choice := PySem.W.mg_of X G g_check_choice
     g_read_line := PySem.W.mg_of X G g_read_line
     g_read_lines := PySem.W.mg_of X G g_read_lines
     g_check_uses := PySem.W.mg_of X G g_check_uses
     g_check_outs := PySem.W.mg_of X G g_check_outs
     g_read_program := PySem.W.mg_of X G g_read_program
     g_read_fractions := PySem.W.mg_of X G g_read_fractions
     g_worked_out := PySem.W.mg_of X G g_worked_out
     g_run := PySem.W.mg_of X G g_run
     g_is_too_large := PySem.W.mg_of X G g_is_too_large
     g_check_text := PySem.W.mg_of X G g_check_text
     g_input_name := PySem.W.mg_of X G g_input_name
     g_constant_name := PySem.W.mg_of X G g_constant_name
     g_line_name := PySem.W.mg_of X G g_line_name
     g_let_part := PySem.W.mg_of X G g_let_part
     g_text_of := PySem.W.mg_of X G g_text_of
     g_needed_ones := PySem.W.mg_of X G g_needed_ones
     g_needed_lines := PySem.W.mg_of X G g_needed_lines
     g_renamed := PySem.W.mg_of X G g_renamed
     g_trimmed := PySem.W.mg_of X G g_trimmed
     g_trimmed_if := PySem.W.mg_of X G g_trimmed_if
     g_answer_next := PySem.W.mg_of X G g_answer_next
     g_answers := PySem.W.mg_of X G g_answers
     cl_Program := ⟨pg_Program, hd_Program, po_Program, sa_Program⟩
     mk_Program := ⟨mk_Program, in_Program, fn_Program, kp_Program⟩
     n_Program_inputs := n_Program_inputs
     n_Program_lines := n_Program_lines
     n_Program_outs := n_Program_outs
     cl_Draft := ⟨pg_Draft, hd_Draft, po_Draft, sa_Draft⟩
     m_Draft_put := ⟨m_Draft_put, mf_Draft_put, kd_Draft_put⟩
     n_Draft_lines := n_Draft_lines
     cl_WeightDraft := ⟨pg_WeightDraft, hd_WeightDraft, po_WeightDraft, sa_WeightDraft⟩
     mk_WeightDraft := ⟨mk_WeightDraft, in_WeightDraft, fn_WeightDraft, kp_WeightDraft⟩
     m_WeightDraft_put := ⟨m_WeightDraft_put, mf_WeightDraft_put, kd_Draft_put⟩
     m_WeightDraft_weigh := ⟨m_WeightDraft_weigh, mf_WeightDraft_weigh, kd_WeightDraft_weigh⟩
     m_WeightDraft_weigh_outs := ⟨m_WeightDraft_weigh_outs, mf_WeightDraft_weigh_outs, kd_WeightDraft_weigh_outs⟩
     m_WeightDraft_pass_on := ⟨m_WeightDraft_pass_on, mf_WeightDraft_pass_on, kd_WeightDraft_pass_on⟩
     m_WeightDraft_pass_on_quotient := ⟨m_WeightDraft_pass_on_quotient, mf_WeightDraft_pass_on_quotient, kd_WeightDraft_pass_on_quotient⟩
     m_WeightDraft_put_sum := ⟨m_WeightDraft_put_sum, mf_WeightDraft_put_sum, kd_WeightDraft_put_sum⟩
     m_WeightDraft_gather := ⟨m_WeightDraft_gather, mf_WeightDraft_gather, kd_WeightDraft_gather⟩
     n_WeightDraft_lines := n_WeightDraft_lines
     n_WeightDraft_holders := n_WeightDraft_holders
     cl_ChangeDraft := ⟨pg_ChangeDraft, hd_ChangeDraft, po_ChangeDraft, sa_ChangeDraft⟩
     mk_ChangeDraft := ⟨mk_ChangeDraft, in_ChangeDraft, fn_ChangeDraft, kp_ChangeDraft⟩
     m_ChangeDraft_put := ⟨m_ChangeDraft_put, mf_ChangeDraft_put, kd_Draft_put⟩
     m_ChangeDraft_put_change := ⟨m_ChangeDraft_put_change, mf_ChangeDraft_put_change, kd_ChangeDraft_put_change⟩
     m_ChangeDraft_opposite_of := ⟨m_ChangeDraft_opposite_of, mf_ChangeDraft_opposite_of, kd_ChangeDraft_opposite_of⟩
     m_ChangeDraft_change_of_sum := ⟨m_ChangeDraft_change_of_sum, mf_ChangeDraft_change_of_sum, kd_ChangeDraft_change_of_sum⟩
     m_ChangeDraft_change_of_difference := ⟨m_ChangeDraft_change_of_difference, mf_ChangeDraft_change_of_difference, kd_ChangeDraft_change_of_difference⟩
     m_ChangeDraft_change_of_product := ⟨m_ChangeDraft_change_of_product, mf_ChangeDraft_change_of_product, kd_ChangeDraft_change_of_product⟩
     m_ChangeDraft_change_of_quotient := ⟨m_ChangeDraft_change_of_quotient, mf_ChangeDraft_change_of_quotient, kd_ChangeDraft_change_of_quotient⟩
     m_ChangeDraft_divided := ⟨m_ChangeDraft_divided, mf_ChangeDraft_divided, kd_ChangeDraft_divided⟩
     m_ChangeDraft_put_out := ⟨m_ChangeDraft_put_out, mf_ChangeDraft_put_out, kd_ChangeDraft_put_out⟩
     n_ChangeDraft_lines := n_ChangeDraft_lines
     n_ChangeDraft_inputs := n_ChangeDraft_inputs
     n_ChangeDraft_changes := n_ChangeDraft_changes
     x_OutOfRange := ⟨⟨_, _, _, _, _, _, _, _, _, _, _, _, _, _, xL_OutOfRange⟩, sa_OutOfRange, ty_OutOfRange, kc_OutOfRange, no_OutOfRange, ⟨ga_OutOfRange, gg_OutOfRange, eb_OutOfRange, hd_OutOfRange⟩, exm_two eb_Refusal ic_Refusal ty_Refusal su_OutOfRange⟩
     y_OutOfRange := ⟨iC_OutOfRange, tI_OutOfRange⟩
     x_BadForm := ⟨⟨_, _, _, _, _, _, _, _, _, _, _, _, _, _, xL_BadForm⟩, sa_BadForm, ty_BadForm, kc_BadForm, no_BadForm, ⟨ga_BadForm, gg_BadForm, eb_BadForm, hd_BadForm⟩, exm_two eb_Refusal ic_Refusal ty_Refusal su_BadForm⟩
     y_BadForm := ⟨iC_BadForm, tI_BadForm⟩
     x_NotThere := ⟨⟨_, _, _, _, _, _, _, _, _, _, _, _, _, _, xL_NotThere⟩, sa_NotThere, ty_NotThere, kc_NotThere, no_NotThere, ⟨ga_NotThere, gg_NotThere, eb_NotThere, hd_NotThere⟩, exm_two eb_Refusal ic_Refusal ty_Refusal su_NotThere⟩
     y_NotThere := ⟨iC_NotThere, tI_NotThere⟩
     x_TooLarge := ⟨⟨_, _, _, _, _, _, _, _, _, _, _, _, _, _, xL_TooLarge⟩, sa_TooLarge, ty_TooLarge, kc_TooLarge, no_TooLarge, ⟨ga_TooLarge, gg_TooLarge, eb_TooLarge, hd_TooLarge⟩, exm_two eb_Refusal ic_Refusal ty_Refusal su_TooLarge⟩
     y_TooLarge := ⟨iC_TooLarge, tI_TooLarge⟩
     cl_Held := ⟨pg_Held, hd_Held, po_Held, sa_Held⟩
     mk_Held := ⟨mk_Held, in_Held, fn_Held, kp_Held⟩
     m_Held_answer_call := ⟨m_Held_answer_call, mf_Held_answer_call, kd_Held_answer_call⟩
     m_Held_take_code := ⟨m_Held_take_code, mf_Held_take_code, kd_Held_take_code⟩
     m_Held_tell_back := ⟨m_Held_tell_back, mf_Held_tell_back, kd_Held_tell_back⟩
     m_Held_tell_ahead := ⟨m_Held_tell_ahead, mf_Held_tell_ahead, kd_Held_tell_ahead⟩
     m_Held_adopt_derivative := ⟨m_Held_adopt_derivative, mf_Held_adopt_derivative, kd_Held_adopt_derivative⟩
     m_Held_run_held := ⟨m_Held_run_held, mf_Held_run_held, kd_Held_run_held⟩
     m_Held_run_gradient := ⟨m_Held_run_gradient, mf_Held_run_gradient, kd_Held_run_gradient⟩
     m_Held_run_change := ⟨m_Held_run_change, mf_Held_run_change, kd_Held_run_change⟩
     m_Held_tell_ops := ⟨m_Held_tell_ops, mf_Held_tell_ops, kd_Held_tell_ops⟩
     m_Held_tell_text := ⟨m_Held_tell_text, mf_Held_tell_text, kd_Held_tell_text⟩
     m_Held_tell_needed := ⟨m_Held_tell_needed, mf_Held_tell_needed, kd_Held_tell_needed⟩
     n_Held_program := n_Held_program
     cl_Taker := ⟨pg_Taker, hd_Taker, po_Taker, sa_Taker⟩
     mk_Taker := ⟨mk_Taker, in_Taker, fn_Taker, kp_Taker⟩
     m_Taker_is_done := ⟨m_Taker_is_done, mf_Taker_is_done, kd_Taker_is_done⟩
     m_Taker_take := ⟨m_Taker_take, mf_Taker_take, kd_Taker_take⟩
     m_Taker_take_number := ⟨m_Taker_take_number, mf_Taker_take_number, kd_Taker_take_number⟩
     m_Taker_take_row := ⟨m_Taker_take_row, mf_Taker_take_row, kd_Taker_take_row⟩
     n_Taker_source := n_Taker_source
     n_Taker_place := n_Taker_place
     cf_Draft_init := ⟨⟨rd_Draft, sp_Draft⟩, fc_Draft⟩
     cf_Refusal_init := ⟨⟨rd_Refusal, sp_Refusal⟩, fc_Refusal⟩
     F_Program_init := fun_mk (st := s_Program_init) l_Program_init cd_ok_Program_init kd_Program_init
     F_Draft_init := fun_mk (st := s_Draft_init) l_Draft_init cd_ok_Draft_init kd_Draft_init
     F_Draft_put := fun_mk (st := s_Draft_put) l_Draft_put cd_ok_Draft_put kd_Draft_put
     F_is_operation := fun_mk (st := s_is_operation) l_is_operation cd_ok_is_operation kd_is_operation
     F_made_of := fun_mk (st := s_made_of) l_made_of cd_ok_made_of kd_made_of
     F_operations := fun_mk (st := s_operations) l_operations cd_ok_operations kd_operations
     F_told := fun_mk (st := s_told) l_told cd_ok_told kd_told
     F_WeightDraft_init := fun_mk (st := s_WeightDraft_init) l_WeightDraft_init cd_ok_WeightDraft_init kd_WeightDraft_init
     F_WeightDraft_weigh := fun_mk (st := s_WeightDraft_weigh) l_WeightDraft_weigh cd_ok_WeightDraft_weigh kd_WeightDraft_weigh
     F_WeightDraft_weigh_outs := fun_mk (st := s_WeightDraft_weigh_outs) l_WeightDraft_weigh_outs cd_ok_WeightDraft_weigh_outs kd_WeightDraft_weigh_outs
     F_WeightDraft_pass_on := fun_mk (st := s_WeightDraft_pass_on) l_WeightDraft_pass_on cd_ok_WeightDraft_pass_on kd_WeightDraft_pass_on
     F_WeightDraft_pass_on_quotient := fun_mk (st := s_WeightDraft_pass_on_quotient) l_WeightDraft_pass_on_quotient cd_ok_WeightDraft_pass_on_quotient kd_WeightDraft_pass_on_quotient
     F_WeightDraft_put_sum := fun_mk (st := s_WeightDraft_put_sum) l_WeightDraft_put_sum cd_ok_WeightDraft_put_sum kd_WeightDraft_put_sum
     F_WeightDraft_gather := fun_mk (st := s_WeightDraft_gather) l_WeightDraft_gather cd_ok_WeightDraft_gather kd_WeightDraft_gather
     F_backward := fun_mk (st := s_backward) l_backward cd_ok_backward kd_backward
     F_ChangeDraft_init := fun_mk (st := s_ChangeDraft_init) l_ChangeDraft_init cd_ok_ChangeDraft_init kd_ChangeDraft_init
     F_ChangeDraft_put_change := fun_mk (st := s_ChangeDraft_put_change) l_ChangeDraft_put_change cd_ok_ChangeDraft_put_change kd_ChangeDraft_put_change
     F_ChangeDraft_opposite_of := fun_mk (st := s_ChangeDraft_opposite_of) l_ChangeDraft_opposite_of cd_ok_ChangeDraft_opposite_of kd_ChangeDraft_opposite_of
     F_ChangeDraft_change_of_sum := fun_mk (st := s_ChangeDraft_change_of_sum) l_ChangeDraft_change_of_sum cd_ok_ChangeDraft_change_of_sum kd_ChangeDraft_change_of_sum
     F_ChangeDraft_change_of_difference := fun_mk (st := s_ChangeDraft_change_of_difference) l_ChangeDraft_change_of_difference cd_ok_ChangeDraft_change_of_difference kd_ChangeDraft_change_of_difference
     F_ChangeDraft_change_of_product := fun_mk (st := s_ChangeDraft_change_of_product) l_ChangeDraft_change_of_product cd_ok_ChangeDraft_change_of_product kd_ChangeDraft_change_of_product
     F_ChangeDraft_change_of_quotient := fun_mk (st := s_ChangeDraft_change_of_quotient) l_ChangeDraft_change_of_quotient cd_ok_ChangeDraft_change_of_quotient kd_ChangeDraft_change_of_quotient
     F_ChangeDraft_divided := fun_mk (st := s_ChangeDraft_divided) l_ChangeDraft_divided cd_ok_ChangeDraft_divided kd_ChangeDraft_divided
     F_ChangeDraft_put_out := fun_mk (st := s_ChangeDraft_put_out) l_ChangeDraft_put_out cd_ok_ChangeDraft_put_out kd_ChangeDraft_put_out
     F_forward := fun_mk (st := s_forward) l_forward cd_ok_forward kd_forward
     F_common_divisor := fun_mk (st := s_common_divisor) l_common_divisor cd_ok_common_divisor kd_common_divisor
     F_lowest := fun_mk (st := s_lowest) l_lowest cd_ok_lowest kd_lowest
     F_weight := fun_mk (st := s_weight) l_weight cd_ok_weight kd_weight
     F_opposite := fun_mk (st := s_opposite) l_opposite cd_ok_opposite kd_opposite
     F_plus := fun_mk (st := s_plus) l_plus cd_ok_plus kd_plus
     F_minus := fun_mk (st := s_minus) l_minus cd_ok_minus kd_minus
     F_times := fun_mk (st := s_times) l_times cd_ok_times kd_times
     F_over := fun_mk (st := s_over) l_over cd_ok_over kd_over
     F_Refusal_init := fun_mk (st := s_Refusal_init) l_Refusal_init cd_ok_Refusal_init kd_Refusal_init
     F_OutOfRange_init := fun_mk (st := s_OutOfRange_init) l_OutOfRange_init cd_ok_OutOfRange_init kd_OutOfRange_init
     F_BadForm_init := fun_mk (st := s_BadForm_init) l_BadForm_init cd_ok_BadForm_init kd_BadForm_init
     F_NotThere_init := fun_mk (st := s_NotThere_init) l_NotThere_init cd_ok_NotThere_init kd_NotThere_init
     F_TooLarge_init := fun_mk (st := s_TooLarge_init) l_TooLarge_init cd_ok_TooLarge_init kd_TooLarge_init
     F_check_choice := fun_mk (st := s_check_choice) l_check_choice cd_ok_check_choice kd_check_choice
     F_read_line := fun_mk (st := s_read_line) l_read_line cd_ok_read_line kd_read_line
     F_read_lines := fun_mk (st := s_read_lines) l_read_lines cd_ok_read_lines kd_read_lines
     F_check_uses := fun_mk (st := s_check_uses) l_check_uses cd_ok_check_uses kd_check_uses
     F_check_outs := fun_mk (st := s_check_outs) l_check_outs cd_ok_check_outs kd_check_outs
     F_read_program := fun_mk (st := s_read_program) l_read_program cd_ok_read_program kd_read_program
     F_read_fractions := fun_mk (st := s_read_fractions) l_read_fractions cd_ok_read_fractions kd_read_fractions
     F_worked_out := fun_mk (st := s_worked_out) l_worked_out cd_ok_worked_out kd_worked_out
     F_run := fun_mk (st := s_run) l_run cd_ok_run kd_run
     F_is_too_large := fun_mk (st := s_is_too_large) l_is_too_large cd_ok_is_too_large kd_is_too_large
     F_check_text := fun_mk (st := s_check_text) l_check_text cd_ok_check_text kd_check_text
     F_input_name := fun_mk (st := s_input_name) l_input_name cd_ok_input_name kd_input_name
     F_constant_name := fun_mk (st := s_constant_name) l_constant_name cd_ok_constant_name kd_constant_name
     F_line_name := fun_mk (st := s_line_name) l_line_name cd_ok_line_name kd_line_name
     F_let_part := fun_mk (st := s_let_part) l_let_part cd_ok_let_part kd_let_part
     F_text_of := fun_mk (st := s_text_of) l_text_of cd_ok_text_of kd_text_of
     F_needed_ones := fun_mk (st := s_needed_ones) l_needed_ones cd_ok_needed_ones kd_needed_ones
     F_needed_lines := fun_mk (st := s_needed_lines) l_needed_lines cd_ok_needed_lines kd_needed_lines
     F_renamed := fun_mk (st := s_renamed) l_renamed cd_ok_renamed kd_renamed
     F_trimmed := fun_mk (st := s_trimmed) l_trimmed cd_ok_trimmed kd_trimmed
     F_trimmed_if := fun_mk (st := s_trimmed_if) l_trimmed_if cd_ok_trimmed_if kd_trimmed_if
     F_Held_init := fun_mk (st := s_Held_init) l_Held_init cd_ok_Held_init kd_Held_init
     F_Held_answer_call := fun_mk (st := s_Held_answer_call) l_Held_answer_call cd_ok_Held_answer_call kd_Held_answer_call
     F_Held_take_code := fun_mk (st := s_Held_take_code) l_Held_take_code cd_ok_Held_take_code kd_Held_take_code
     F_Held_tell_back := fun_mk (st := s_Held_tell_back) l_Held_tell_back cd_ok_Held_tell_back kd_Held_tell_back
     F_Held_tell_ahead := fun_mk (st := s_Held_tell_ahead) l_Held_tell_ahead cd_ok_Held_tell_ahead kd_Held_tell_ahead
     F_Held_adopt_derivative := fun_mk (st := s_Held_adopt_derivative) l_Held_adopt_derivative cd_ok_Held_adopt_derivative kd_Held_adopt_derivative
     F_Held_run_held := fun_mk (st := s_Held_run_held) l_Held_run_held cd_ok_Held_run_held kd_Held_run_held
     F_Held_run_gradient := fun_mk (st := s_Held_run_gradient) l_Held_run_gradient cd_ok_Held_run_gradient kd_Held_run_gradient
     F_Held_run_change := fun_mk (st := s_Held_run_change) l_Held_run_change cd_ok_Held_run_change kd_Held_run_change
     F_Held_tell_ops := fun_mk (st := s_Held_tell_ops) l_Held_tell_ops cd_ok_Held_tell_ops kd_Held_tell_ops
     F_Held_tell_text := fun_mk (st := s_Held_tell_text) l_Held_tell_text cd_ok_Held_tell_text kd_Held_tell_text
     F_Held_tell_needed := fun_mk (st := s_Held_tell_needed) l_Held_tell_needed cd_ok_Held_tell_needed kd_Held_tell_needed
     F_Taker_init := fun_mk (st := s_Taker_init) l_Taker_init cd_ok_Taker_init kd_Taker_init
     F_Taker_is_done := fun_mk (st := s_Taker_is_done) l_Taker_is_done cd_ok_Taker_is_done kd_Taker_is_done
     F_Taker_take := fun_mk (st := s_Taker_take) l_Taker_take cd_ok_Taker_take kd_Taker_take
     F_Taker_take_number := fun_mk (st := s_Taker_take_number) l_Taker_take_number cd_ok_Taker_take_number kd_Taker_take_number
     F_Taker_take_row := fun_mk (st := s_Taker_take_row) l_Taker_take_row cd_ok_Taker_take_row kd_Taker_take_row
     F_answer_next := fun_mk (st := s_answer_next) l_answer_next cd_ok_answer_next kd_answer_next
     F_answers := fun_mk (st := s_answers) l_answers cd_ok_answers kd_answers
     v_INPUT := ⟨_, PySem.W.mg_of X G c_INPUT⟩
     v_CONSTANT := ⟨_, PySem.W.mg_of X G c_CONSTANT⟩
     v_SUM := ⟨_, PySem.W.mg_of X G c_SUM⟩
     v_DIFFERENCE := ⟨_, PySem.W.mg_of X G c_DIFFERENCE⟩
     v_PRODUCT := ⟨_, PySem.W.mg_of X G c_PRODUCT⟩
     v_QUOTIENT := ⟨_, PySem.W.mg_of X G c_QUOTIENT⟩
     v_OPPOSITE := ⟨_, PySem.W.mg_of X G c_OPPOSITE⟩
     v_MOST_INPUTS_reading := ⟨_, PySem.W.mg_of X G c_MOST_INPUTS_reading⟩
     v_MOST_LINES := ⟨_, PySem.W.mg_of X G c_MOST_LINES⟩
     v_MOST_OUTS_reading := ⟨_, PySem.W.mg_of X G c_MOST_OUTS_reading⟩
     v_DIVISOR_IS_ZERO := ⟨_, PySem.W.mg_of X G c_DIVISOR_IS_ZERO⟩
     v_TOO_HEAVY := ⟨_, PySem.W.mg_of X G c_TOO_HEAVY⟩
     v_HEAVIEST := ⟨_, PySem.W.mg_of X G c_HEAVIEST⟩
     v_MOST_INPUTS_texts := ⟨_, PySem.W.mg_of X G c_MOST_INPUTS_texts⟩
     v_MOST_OUTS_texts := ⟨_, PySem.W.mg_of X G c_MOST_OUTS_texts⟩
     v_MOST_OPERATIONS := ⟨_, PySem.W.mg_of X G c_MOST_OPERATIONS⟩
     v_TOO_LARGE_A_NUMBER := ⟨_, PySem.W.mg_of X G c_TOO_LARGE_A_NUMBER⟩
     v_CODE := ⟨_, PySem.W.mg_of X G c_CODE⟩
     v_BACK := ⟨_, PySem.W.mg_of X G c_BACK⟩
     v_AHEAD := ⟨_, PySem.W.mg_of X G c_AHEAD⟩
     v_ADOPT := ⟨_, PySem.W.mg_of X G c_ADOPT⟩
     v_RUN := ⟨_, PySem.W.mg_of X G c_RUN⟩
     v_GRADIENT := ⟨_, PySem.W.mg_of X G c_GRADIENT⟩
     v_CHANGE := ⟨_, PySem.W.mg_of X G c_CHANGE⟩
     v_OPS := ⟨_, PySem.W.mg_of X G c_OPS⟩
     v_TEXT := ⟨_, PySem.W.mg_of X G c_TEXT⟩
     v_LINES := ⟨_, PySem.W.mg_of X G c_LINES⟩
     v_MOST_ADOPTED_INPUTS := ⟨_, PySem.W.mg_of X G c_MOST_ADOPTED_INPUTS⟩
     v_MOST_ADOPTED_LINES := ⟨_, PySem.W.mg_of X G c_MOST_ADOPTED_LINES⟩
     v_SIZES := PySem.W.mg_of X G c_SIZES
     t_SIZES := fun _ => .inr ⟨_, _, _, lk_SIZES, rfl, rfl, (by show 7 ≤ sizeLine; decide), (Paired.cons ⟨_, rfl⟩ (Paired.cons ⟨_, rfl⟩ (Paired.cons ⟨_, rfl⟩ (Paired.cons ⟨_, rfl⟩ (Paired.cons ⟨_, rfl⟩ (Paired.cons ⟨_, rfl⟩ (Paired.cons ⟨_, rfl⟩ Paired.nil)))))))⟩
     v_SIGNS := PySem.W.mg_of X G c_SIGNS
     t_SIGNS := fun _ => .inr ⟨_, _, _, lk_SIGNS, rfl, rfl, (by show 7 ≤ sizeLine; decide), (Paired.cons ⟨_, rfl⟩ (Paired.cons ⟨_, rfl⟩ (Paired.cons ⟨_, rfl⟩ (Paired.cons ⟨_, rfl⟩ (Paired.cons ⟨_, rfl⟩ (Paired.cons ⟨_, rfl⟩ (Paired.cons ⟨_, rfl⟩ Paired.nil)))))))⟩
     v_SHAPES := PySem.W.mg_of X G c_SHAPES
     t_SHAPES := fun _ => .inr ⟨_, _, _, lk_SHAPES, rfl, rfl, (by show 11 ≤ sizeLine; decide), (Paired.cons rfl (Paired.cons rfl (Paired.cons rfl (Paired.cons rfl (Paired.cons rfl (Paired.cons rfl (Paired.cons rfl (Paired.cons rfl (Paired.cons rfl (Paired.cons rfl (Paired.cons rfl Paired.nil)))))))))))⟩
     t_SHAPES_0 := fun _ => .inr ⟨_, _, _, lk_SHAPES_0, rfl, rfl, (by show 2 ≤ sizeLine; decide), (Paired.cons ⟨_, rfl⟩ (Paired.cons ⟨_, rfl⟩ Paired.nil))⟩
     t_SHAPES_1 := fun _ => .inr ⟨_, _, _, lk_SHAPES_1, rfl, rfl, (by show 2 ≤ sizeLine; decide), (Paired.cons ⟨_, rfl⟩ (Paired.cons ⟨_, rfl⟩ Paired.nil))⟩
     t_SHAPES_2 := fun _ => .inr ⟨_, _, _, lk_SHAPES_2, rfl, rfl, (by show 2 ≤ sizeLine; decide), (Paired.cons ⟨_, rfl⟩ (Paired.cons ⟨_, rfl⟩ Paired.nil))⟩
     t_SHAPES_3 := fun _ => .inr ⟨_, _, _, lk_SHAPES_3, rfl, rfl, (by show 2 ≤ sizeLine; decide), (Paired.cons ⟨_, rfl⟩ (Paired.cons ⟨_, rfl⟩ Paired.nil))⟩
     t_SHAPES_4 := fun _ => .inr ⟨_, _, _, lk_SHAPES_4, rfl, rfl, (by show 2 ≤ sizeLine; decide), (Paired.cons ⟨_, rfl⟩ (Paired.cons ⟨_, rfl⟩ Paired.nil))⟩
     t_SHAPES_5 := fun _ => .inr ⟨_, _, _, lk_SHAPES_5, rfl, rfl, (by show 2 ≤ sizeLine; decide), (Paired.cons ⟨_, rfl⟩ (Paired.cons ⟨_, rfl⟩ Paired.nil))⟩
     t_SHAPES_6 := fun _ => .inr ⟨_, _, _, lk_SHAPES_6, rfl, rfl, (by show 2 ≤ sizeLine; decide), (Paired.cons ⟨_, rfl⟩ (Paired.cons ⟨_, rfl⟩ Paired.nil))⟩
     t_SHAPES_7 := fun _ => .inr ⟨_, _, _, lk_SHAPES_7, rfl, rfl, (by show 2 ≤ sizeLine; decide), (Paired.cons ⟨_, rfl⟩ (Paired.cons ⟨_, rfl⟩ Paired.nil))⟩
     t_SHAPES_8 := fun _ => .inr ⟨_, _, _, lk_SHAPES_8, rfl, rfl, (by show 2 ≤ sizeLine; decide), (Paired.cons ⟨_, rfl⟩ (Paired.cons ⟨_, rfl⟩ Paired.nil))⟩
     t_SHAPES_9 := fun _ => .inr ⟨_, _, _, lk_SHAPES_9, rfl, rfl, (by show 2 ≤ sizeLine; decide), (Paired.cons ⟨_, rfl⟩ (Paired.cons ⟨_, rfl⟩ Paired.nil))⟩
     t_SHAPES_10 := fun _ => .inr ⟨_, _, _, lk_SHAPES_10, rfl, rfl, (by show 2 ≤ sizeLine; decide), (Paired.cons ⟨_, rfl⟩ (Paired.cons ⟨_, rfl⟩ Paired.nil))⟩
     exI := exI
     f_Exception := PySem.W.mg_none_of X G f_Exception
     f_abs := PySem.W.mg_none_of X G f_abs
     f_any := PySem.W.mg_none_of X G f_any
     f_enumerate := PySem.W.mg_none_of X G f_enumerate
     f_len := PySem.W.mg_none_of X G f_len
     f_list := PySem.W.mg_none_of X G f_list
     f_max := PySem.W.mg_none_of X G f_max
     f_min := PySem.W.mg_none_of X G f_min
     f_ord := PySem.W.mg_none_of X G f_ord
     f_range := PySem.W.mg_none_of X G f_range
     f_tuple := PySem.W.mg_none_of X G f_tuple }⟩
theorem ans_of {P : Program} {w : World} {K : PySem.W.Frag} {h : Heap} {mg : Str → Option Value} {fa : Addr} (X : K.In h) (G : h.Ns mainGlobals mg) (hfa : mg "answers" = some (.ref fa)) (TT : ∃ D : Ad, Txt K mg D) :
    ∃ fd : FuncData, (∀ (s : Shared) (us : List Value), us.length = P_answers.length → BindsTo s fd ⟨us, []⟩ (P_answers.zip us)) ∧ ∀ base : Heap, K.In base → base.Ns mainGlobals mg → FnOk P w K mg base CX0 10 fa fd P_answers (spAns K) := by
  obtain ⟨D, T⟩ := TT
  have e := hfa.symm.trans T.g_answers
  cases e
  refine ⟨D.d_answers, fun s us hu => ?_, fun base _ _ => ok_answers T⟩
  obtain ⟨oc, od, kV, doc, pm, an, cdv, ct, osl, e, l, c⟩ := T.F_answers.ex
  rw [e]
  exact match us, hu with | [_], _ => .of_eq rfl
end Lc
set_option Elab.async false
set_option linter.all false
open PySem PySem.W PyProof.Rows
set_option maxRecDepth 100000 in
set_option maxHeartbeats 8000000 in
theorem PySem.Challenge.cw_linecode_s01_answers_holds : PySem.Challenge.rw_linecode_s01_answers.Holds := by
  w_on; k_headS; (case hw => exact ⟨[.list [.int 1, .int 0]], by decide +kernel, by decide +kernel⟩)
  k_fillS
  refine L2.walk_specK (r := PySem.Challenge.rw_linecode_s01_answers) (k := 10) (CX := L2.CX0) (ps := ["calls"]) (sp := fun K => Lc.spAns K) (by decide +kernel) rfl rfl ⟨rfl, by decide, by decide⟩ (fun w h Y => PySem.W.kIn_of Y) ?F ?S (fun _ _ _ _ z => z)
  case F =>
    intro w mg fa h Y KX G hmg
    refine Lc.ans_of KX G hmg ?TT
    case TT =>
      refine' Lc.txt_mk KX G ?g_Program ?g_Draft ?g_WeightDraft ?g_ChangeDraft ?g_Refusal ?g_OutOfRange ?g_BadForm ?g_NotThere ?g_TooLarge ?g_Held ?g_Taker ?g_is_operation ?g_made_of ?g_operations ?g_told ?g_backward ?g_forward ?g_common_divisor ?g_lowest ?g_weight ?g_opposite ?g_plus ?g_minus ?g_times ?g_over ?g_check_choice ?g_read_line ?g_read_lines ?g_check_uses ?g_check_outs ?g_read_program ?g_read_fractions ?g_worked_out ?g_run ?g_is_too_large ?g_check_text ?g_input_name ?g_constant_name ?g_line_name ?g_let_part ?g_text_of ?g_needed_ones ?g_needed_lines ?g_renamed ?g_trimmed ?g_trimmed_if ?g_answer_next ?g_answers ?pg_Program ?hd_Program ?po_Program ?sa_Program ?mk_Program ?in_Program ?fn_Program ?kp_Program ?n_Program_inputs ?n_Program_lines ?n_Program_outs ?pg_Draft ?hd_Draft ?po_Draft ?sa_Draft ?m_Draft_put ?mf_Draft_put ?n_Draft_lines ?pg_WeightDraft ?hd_WeightDraft ?po_WeightDraft ?sa_WeightDraft ?mk_WeightDraft ?in_WeightDraft ?fn_WeightDraft ?kp_WeightDraft ?m_WeightDraft_put ?mf_WeightDraft_put ?m_WeightDraft_weigh ?mf_WeightDraft_weigh ?m_WeightDraft_weigh_outs ?mf_WeightDraft_weigh_outs ?m_WeightDraft_pass_on ?mf_WeightDraft_pass_on ?m_WeightDraft_pass_on_quotient ?mf_WeightDraft_pass_on_quotient ?m_WeightDraft_put_sum ?mf_WeightDraft_put_sum ?m_WeightDraft_gather ?mf_WeightDraft_gather ?n_WeightDraft_lines ?n_WeightDraft_holders ?pg_ChangeDraft ?hd_ChangeDraft ?po_ChangeDraft ?sa_ChangeDraft ?mk_ChangeDraft ?in_ChangeDraft ?fn_ChangeDraft ?kp_ChangeDraft ?m_ChangeDraft_put ?mf_ChangeDraft_put ?m_ChangeDraft_put_change ?mf_ChangeDraft_put_change ?m_ChangeDraft_opposite_of ?mf_ChangeDraft_opposite_of ?m_ChangeDraft_change_of_sum ?mf_ChangeDraft_change_of_sum ?m_ChangeDraft_change_of_difference ?mf_ChangeDraft_change_of_difference ?m_ChangeDraft_change_of_product ?mf_ChangeDraft_change_of_product ?m_ChangeDraft_change_of_quotient ?mf_ChangeDraft_change_of_quotient ?m_ChangeDraft_divided ?mf_ChangeDraft_divided ?m_ChangeDraft_put_out ?mf_ChangeDraft_put_out ?n_ChangeDraft_lines ?n_ChangeDraft_inputs ?n_ChangeDraft_changes ?xL_OutOfRange ?sa_OutOfRange ?ty_OutOfRange ?kc_OutOfRange ?no_OutOfRange ?ga_OutOfRange ?gg_OutOfRange ?eb_OutOfRange ?hd_OutOfRange ?su_OutOfRange ?iC_OutOfRange ?tI_OutOfRange ?xL_BadForm ?sa_BadForm ?ty_BadForm ?kc_BadForm ?no_BadForm ?ga_BadForm ?gg_BadForm ?eb_BadForm ?hd_BadForm ?su_BadForm ?iC_BadForm ?tI_BadForm ?xL_NotThere ?sa_NotThere ?ty_NotThere ?kc_NotThere ?no_NotThere ?ga_NotThere ?gg_NotThere ?eb_NotThere ?hd_NotThere ?su_NotThere ?iC_NotThere ?tI_NotThere ?xL_TooLarge ?sa_TooLarge ?ty_TooLarge ?kc_TooLarge ?no_TooLarge ?ga_TooLarge ?gg_TooLarge ?eb_TooLarge ?hd_TooLarge ?su_TooLarge ?iC_TooLarge ?tI_TooLarge ?pg_Held ?hd_Held ?po_Held ?sa_Held ?mk_Held ?in_Held ?fn_Held ?kp_Held ?m_Held_answer_call ?mf_Held_answer_call ?m_Held_take_code ?mf_Held_take_code ?m_Held_tell_back ?mf_Held_tell_back ?m_Held_tell_ahead ?mf_Held_tell_ahead ?m_Held_adopt_derivative ?mf_Held_adopt_derivative ?m_Held_run_held ?mf_Held_run_held ?m_Held_run_gradient ?mf_Held_run_gradient ?m_Held_run_change ?mf_Held_run_change ?m_Held_tell_ops ?mf_Held_tell_ops ?m_Held_tell_text ?mf_Held_tell_text ?m_Held_tell_needed ?mf_Held_tell_needed ?n_Held_program ?pg_Taker ?hd_Taker ?po_Taker ?sa_Taker ?mk_Taker ?in_Taker ?fn_Taker ?kp_Taker ?m_Taker_is_done ?mf_Taker_is_done ?m_Taker_take ?mf_Taker_take ?m_Taker_take_number ?mf_Taker_take_number ?m_Taker_take_row ?mf_Taker_take_row ?n_Taker_source ?n_Taker_place ?ic_Refusal ?ty_Refusal ?eb_Refusal ?rd_Draft ?sp_Draft ?fc_Draft ?rd_Refusal ?sp_Refusal ?fc_Refusal ?l_Program_init ?cd_ok_Program_init ?kd_Program_init ?l_Draft_init ?cd_ok_Draft_init ?kd_Draft_init ?l_Draft_put ?cd_ok_Draft_put ?kd_Draft_put ?l_is_operation ?cd_ok_is_operation ?kd_is_operation ?l_made_of ?cd_ok_made_of ?kd_made_of ?l_operations ?cd_ok_operations ?kd_operations ?l_told ?cd_ok_told ?kd_told ?l_WeightDraft_init ?cd_ok_WeightDraft_init ?kd_WeightDraft_init ?l_WeightDraft_weigh ?cd_ok_WeightDraft_weigh ?kd_WeightDraft_weigh ?l_WeightDraft_weigh_outs ?cd_ok_WeightDraft_weigh_outs ?kd_WeightDraft_weigh_outs ?l_WeightDraft_pass_on ?cd_ok_WeightDraft_pass_on ?kd_WeightDraft_pass_on ?l_WeightDraft_pass_on_quotient ?cd_ok_WeightDraft_pass_on_quotient ?kd_WeightDraft_pass_on_quotient ?l_WeightDraft_put_sum ?cd_ok_WeightDraft_put_sum ?kd_WeightDraft_put_sum ?l_WeightDraft_gather ?cd_ok_WeightDraft_gather ?kd_WeightDraft_gather ?l_backward ?cd_ok_backward ?kd_backward ?l_ChangeDraft_init ?cd_ok_ChangeDraft_init ?kd_ChangeDraft_init ?l_ChangeDraft_put_change ?cd_ok_ChangeDraft_put_change ?kd_ChangeDraft_put_change ?l_ChangeDraft_opposite_of ?cd_ok_ChangeDraft_opposite_of ?kd_ChangeDraft_opposite_of ?l_ChangeDraft_change_of_sum ?cd_ok_ChangeDraft_change_of_sum ?kd_ChangeDraft_change_of_sum ?l_ChangeDraft_change_of_difference ?cd_ok_ChangeDraft_change_of_difference ?kd_ChangeDraft_change_of_difference ?l_ChangeDraft_change_of_product ?cd_ok_ChangeDraft_change_of_product ?kd_ChangeDraft_change_of_product ?l_ChangeDraft_change_of_quotient ?cd_ok_ChangeDraft_change_of_quotient ?kd_ChangeDraft_change_of_quotient ?l_ChangeDraft_divided ?cd_ok_ChangeDraft_divided ?kd_ChangeDraft_divided ?l_ChangeDraft_put_out ?cd_ok_ChangeDraft_put_out ?kd_ChangeDraft_put_out ?l_forward ?cd_ok_forward ?kd_forward ?l_common_divisor ?cd_ok_common_divisor ?kd_common_divisor ?l_lowest ?cd_ok_lowest ?kd_lowest ?l_weight ?cd_ok_weight ?kd_weight ?l_opposite ?cd_ok_opposite ?kd_opposite ?l_plus ?cd_ok_plus ?kd_plus ?l_minus ?cd_ok_minus ?kd_minus ?l_times ?cd_ok_times ?kd_times ?l_over ?cd_ok_over ?kd_over ?l_Refusal_init ?cd_ok_Refusal_init ?kd_Refusal_init ?l_OutOfRange_init ?cd_ok_OutOfRange_init ?kd_OutOfRange_init ?l_BadForm_init ?cd_ok_BadForm_init ?kd_BadForm_init ?l_NotThere_init ?cd_ok_NotThere_init ?kd_NotThere_init ?l_TooLarge_init ?cd_ok_TooLarge_init ?kd_TooLarge_init ?l_check_choice ?cd_ok_check_choice ?kd_check_choice ?l_read_line ?cd_ok_read_line ?kd_read_line ?l_read_lines ?cd_ok_read_lines ?kd_read_lines ?l_check_uses ?cd_ok_check_uses ?kd_check_uses ?l_check_outs ?cd_ok_check_outs ?kd_check_outs ?l_read_program ?cd_ok_read_program ?kd_read_program ?l_read_fractions ?cd_ok_read_fractions ?kd_read_fractions ?l_worked_out ?cd_ok_worked_out ?kd_worked_out ?l_run ?cd_ok_run ?kd_run ?l_is_too_large ?cd_ok_is_too_large ?kd_is_too_large ?l_check_text ?cd_ok_check_text ?kd_check_text ?l_input_name ?cd_ok_input_name ?kd_input_name ?l_constant_name ?cd_ok_constant_name ?kd_constant_name ?l_line_name ?cd_ok_line_name ?kd_line_name ?l_let_part ?cd_ok_let_part ?kd_let_part ?l_text_of ?cd_ok_text_of ?kd_text_of ?l_needed_ones ?cd_ok_needed_ones ?kd_needed_ones ?l_needed_lines ?cd_ok_needed_lines ?kd_needed_lines ?l_renamed ?cd_ok_renamed ?kd_renamed ?l_trimmed ?cd_ok_trimmed ?kd_trimmed ?l_trimmed_if ?cd_ok_trimmed_if ?kd_trimmed_if ?l_Held_init ?cd_ok_Held_init ?kd_Held_init ?l_Held_answer_call ?cd_ok_Held_answer_call ?kd_Held_answer_call ?l_Held_take_code ?cd_ok_Held_take_code ?kd_Held_take_code ?l_Held_tell_back ?cd_ok_Held_tell_back ?kd_Held_tell_back ?l_Held_tell_ahead ?cd_ok_Held_tell_ahead ?kd_Held_tell_ahead ?l_Held_adopt_derivative ?cd_ok_Held_adopt_derivative ?kd_Held_adopt_derivative ?l_Held_run_held ?cd_ok_Held_run_held ?kd_Held_run_held ?l_Held_run_gradient ?cd_ok_Held_run_gradient ?kd_Held_run_gradient ?l_Held_run_change ?cd_ok_Held_run_change ?kd_Held_run_change ?l_Held_tell_ops ?cd_ok_Held_tell_ops ?kd_Held_tell_ops ?l_Held_tell_text ?cd_ok_Held_tell_text ?kd_Held_tell_text ?l_Held_tell_needed ?cd_ok_Held_tell_needed ?kd_Held_tell_needed ?l_Taker_init ?cd_ok_Taker_init ?kd_Taker_init ?l_Taker_is_done ?cd_ok_Taker_is_done ?kd_Taker_is_done ?l_Taker_take ?cd_ok_Taker_take ?kd_Taker_take ?l_Taker_take_number ?cd_ok_Taker_take_number ?kd_Taker_take_number ?l_Taker_take_row ?cd_ok_Taker_take_row ?kd_Taker_take_row ?l_answer_next ?cd_ok_answer_next ?kd_answer_next ?l_answers ?cd_ok_answers ?kd_answers ?c_INPUT ?c_CONSTANT ?c_SUM ?c_DIFFERENCE ?c_PRODUCT ?c_QUOTIENT ?c_OPPOSITE ?c_MOST_INPUTS_reading ?c_MOST_LINES ?c_MOST_OUTS_reading ?c_DIVISOR_IS_ZERO ?c_TOO_HEAVY ?c_HEAVIEST ?c_MOST_INPUTS_texts ?c_MOST_OUTS_texts ?c_MOST_OPERATIONS ?c_TOO_LARGE_A_NUMBER ?c_CODE ?c_BACK ?c_AHEAD ?c_ADOPT ?c_RUN ?c_GRADIENT ?c_CHANGE ?c_OPS ?c_TEXT ?c_LINES ?c_MOST_ADOPTED_INPUTS ?c_MOST_ADOPTED_LINES ?c_SIZES ?lk_SIZES ?c_SIGNS ?lk_SIGNS ?c_SHAPES ?lk_SHAPES ?lk_SHAPES_0 ?lk_SHAPES_1 ?lk_SHAPES_2 ?lk_SHAPES_3 ?lk_SHAPES_4 ?lk_SHAPES_5 ?lk_SHAPES_6 ?lk_SHAPES_7 ?lk_SHAPES_8 ?lk_SHAPES_9 ?lk_SHAPES_10 ?exI ?f_Exception ?f_abs ?f_any ?f_enumerate ?f_len ?f_list ?f_max ?f_min ?f_ord ?f_range ?f_tuple
      (case g_Program => k_is)
      (case g_Draft => k_is)
      (case g_WeightDraft => k_is)
      (case g_ChangeDraft => k_is)
      (case g_Refusal => k_is)
      (case g_OutOfRange => k_is)
      (case g_BadForm => k_is)
      (case g_NotThere => k_is)
      (case g_TooLarge => k_is)
      (case g_Held => k_is)
      (case g_Taker => k_is)
      (case g_is_operation => k_is)
      (case g_made_of => k_is)
      (case g_operations => k_is)
      (case g_told => k_is)
      (case g_backward => k_is)
      (case g_forward => k_is)
      (case g_common_divisor => k_is)
      (case g_lowest => k_is)
      (case g_weight => k_is)
      (case g_opposite => k_is)
      (case g_plus => k_is)
      (case g_minus => k_is)
      (case g_times => k_is)
      (case g_over => k_is)
      (case g_check_choice => k_is)
      (case g_read_line => k_is)
      (case g_read_lines => k_is)
      (case g_check_uses => k_is)
      (case g_check_outs => k_is)
      (case g_read_program => k_is)
      (case g_read_fractions => k_is)
      (case g_worked_out => k_is)
      (case g_run => k_is)
      (case g_is_too_large => k_is)
      (case g_check_text => k_is)
      (case g_input_name => k_is)
      (case g_constant_name => k_is)
      (case g_line_name => k_is)
      (case g_let_part => k_is)
      (case g_text_of => k_is)
      (case g_needed_ones => k_is)
      (case g_needed_lines => k_is)
      (case g_renamed => k_is)
      (case g_trimmed => k_is)
      (case g_trimmed_if => k_is)
      (case g_answer_next => k_is)
      (case g_answers => k_is)
      (case pg_Program => k_is)
      (case hd_Program => k_is)
      (case po_Program => k_is)
      (case sa_Program => k_is)
      (case mk_Program => k_is)
      (case in_Program => k_is)
      (case fn_Program => k_is)
      (case kp_Program => k_is)
      (case n_Program_inputs => k_is)
      (case n_Program_lines => k_is)
      (case n_Program_outs => k_is)
      (case pg_Draft => k_is)
      (case hd_Draft => k_is)
      (case po_Draft => k_is)
      (case sa_Draft => k_is)
      (case m_Draft_put => k_is)
      (case mf_Draft_put => k_is)
      (case n_Draft_lines => k_is)
      (case pg_WeightDraft => k_is)
      (case hd_WeightDraft => k_is)
      (case po_WeightDraft => k_is)
      (case sa_WeightDraft => k_is)
      (case mk_WeightDraft => k_is)
      (case in_WeightDraft => k_is)
      (case fn_WeightDraft => k_is)
      (case kp_WeightDraft => k_is)
      (case m_WeightDraft_put => k_is)
      (case mf_WeightDraft_put => k_is)
      (case m_WeightDraft_weigh => k_is)
      (case mf_WeightDraft_weigh => k_is)
      (case m_WeightDraft_weigh_outs => k_is)
      (case mf_WeightDraft_weigh_outs => k_is)
      (case m_WeightDraft_pass_on => k_is)
      (case mf_WeightDraft_pass_on => k_is)
      (case m_WeightDraft_pass_on_quotient => k_is)
      (case mf_WeightDraft_pass_on_quotient => k_is)
      (case m_WeightDraft_put_sum => k_is)
      (case mf_WeightDraft_put_sum => k_is)
      (case m_WeightDraft_gather => k_is)
      (case mf_WeightDraft_gather => k_is)
      (case n_WeightDraft_lines => k_is)
      (case n_WeightDraft_holders => k_is)
      (case pg_ChangeDraft => k_is)
      (case hd_ChangeDraft => k_is)
      (case po_ChangeDraft => k_is)
      (case sa_ChangeDraft => k_is)
      (case mk_ChangeDraft => k_is)
      (case in_ChangeDraft => k_is)
      (case fn_ChangeDraft => k_is)
      (case kp_ChangeDraft => k_is)
      (case m_ChangeDraft_put => k_is)
      (case mf_ChangeDraft_put => k_is)
      (case m_ChangeDraft_put_change => k_is)
      (case mf_ChangeDraft_put_change => k_is)
      (case m_ChangeDraft_opposite_of => k_is)
      (case mf_ChangeDraft_opposite_of => k_is)
      (case m_ChangeDraft_change_of_sum => k_is)
      (case mf_ChangeDraft_change_of_sum => k_is)
      (case m_ChangeDraft_change_of_difference => k_is)
      (case mf_ChangeDraft_change_of_difference => k_is)
      (case m_ChangeDraft_change_of_product => k_is)
      (case mf_ChangeDraft_change_of_product => k_is)
      (case m_ChangeDraft_change_of_quotient => k_is)
      (case mf_ChangeDraft_change_of_quotient => k_is)
      (case m_ChangeDraft_divided => k_is)
      (case mf_ChangeDraft_divided => k_is)
      (case m_ChangeDraft_put_out => k_is)
      (case mf_ChangeDraft_put_out => k_is)
      (case n_ChangeDraft_lines => k_is)
      (case n_ChangeDraft_inputs => k_is)
      (case n_ChangeDraft_changes => k_is)
      (case xL_OutOfRange => k_is)
      (case sa_OutOfRange => k_is)
      (case ty_OutOfRange => k_is)
      (case kc_OutOfRange => k_is)
      (case no_OutOfRange => k_is)
      (case ga_OutOfRange => k_is)
      (case gg_OutOfRange => k_is)
      (case eb_OutOfRange => k_is)
      (case hd_OutOfRange => k_is)
      (case su_OutOfRange => k_is)
      (case iC_OutOfRange => k_is)
      (case tI_OutOfRange => k_is)
      (case xL_BadForm => k_is)
      (case sa_BadForm => k_is)
      (case ty_BadForm => k_is)
      (case kc_BadForm => k_is)
      (case no_BadForm => k_is)
      (case ga_BadForm => k_is)
      (case gg_BadForm => k_is)
      (case eb_BadForm => k_is)
      (case hd_BadForm => k_is)
      (case su_BadForm => k_is)
      (case iC_BadForm => k_is)
      (case tI_BadForm => k_is)
      (case xL_NotThere => k_is)
      (case sa_NotThere => k_is)
      (case ty_NotThere => k_is)
      (case kc_NotThere => k_is)
      (case no_NotThere => k_is)
      (case ga_NotThere => k_is)
      (case gg_NotThere => k_is)
      (case eb_NotThere => k_is)
      (case hd_NotThere => k_is)
      (case su_NotThere => k_is)
      (case iC_NotThere => k_is)
      (case tI_NotThere => k_is)
      (case xL_TooLarge => k_is)
      (case sa_TooLarge => k_is)
      (case ty_TooLarge => k_is)
      (case kc_TooLarge => k_is)
      (case no_TooLarge => k_is)
      (case ga_TooLarge => k_is)
      (case gg_TooLarge => k_is)
      (case eb_TooLarge => k_is)
      (case hd_TooLarge => k_is)
      (case su_TooLarge => k_is)
      (case iC_TooLarge => k_is)
      (case tI_TooLarge => k_is)
      (case pg_Held => k_is)
      (case hd_Held => k_is)
      (case po_Held => k_is)
      (case sa_Held => k_is)
      (case mk_Held => k_is)
      (case in_Held => k_is)
      (case fn_Held => k_is)
      (case kp_Held => k_is)
      (case m_Held_answer_call => k_is)
      (case mf_Held_answer_call => k_is)
      (case m_Held_take_code => k_is)
      (case mf_Held_take_code => k_is)
      (case m_Held_tell_back => k_is)
      (case mf_Held_tell_back => k_is)
      (case m_Held_tell_ahead => k_is)
      (case mf_Held_tell_ahead => k_is)
      (case m_Held_adopt_derivative => k_is)
      (case mf_Held_adopt_derivative => k_is)
      (case m_Held_run_held => k_is)
      (case mf_Held_run_held => k_is)
      (case m_Held_run_gradient => k_is)
      (case mf_Held_run_gradient => k_is)
      (case m_Held_run_change => k_is)
      (case mf_Held_run_change => k_is)
      (case m_Held_tell_ops => k_is)
      (case mf_Held_tell_ops => k_is)
      (case m_Held_tell_text => k_is)
      (case mf_Held_tell_text => k_is)
      (case m_Held_tell_needed => k_is)
      (case mf_Held_tell_needed => k_is)
      (case n_Held_program => k_is)
      (case pg_Taker => k_is)
      (case hd_Taker => k_is)
      (case po_Taker => k_is)
      (case sa_Taker => k_is)
      (case mk_Taker => k_is)
      (case in_Taker => k_is)
      (case fn_Taker => k_is)
      (case kp_Taker => k_is)
      (case m_Taker_is_done => k_is)
      (case mf_Taker_is_done => k_is)
      (case m_Taker_take => k_is)
      (case mf_Taker_take => k_is)
      (case m_Taker_take_number => k_is)
      (case mf_Taker_take_number => k_is)
      (case m_Taker_take_row => k_is)
      (case mf_Taker_take_row => k_is)
      (case n_Taker_source => k_is)
      (case n_Taker_place => k_is)
      (case ic_Refusal => k_is)
      (case ty_Refusal => k_is)
      (case eb_Refusal => k_is)
      (case rd_Draft => k_is)
      (case sp_Draft => k_is)
      (case fc_Draft => k_is)
      (case rd_Refusal => k_is)
      (case sp_Refusal => k_is)
      (case fc_Refusal => k_is)
      (case l_Program_init => k_is)
      (case cd_ok_Program_init => k_is)
      (case kd_Program_init => k_is)
      (case l_Draft_init => k_is)
      (case cd_ok_Draft_init => k_is)
      (case kd_Draft_init => k_is)
      (case l_Draft_put => k_is)
      (case cd_ok_Draft_put => k_is)
      (case kd_Draft_put => k_is)
      (case l_is_operation => k_is)
      (case cd_ok_is_operation => k_is)
      (case kd_is_operation => k_is)
      (case l_made_of => k_is)
      (case cd_ok_made_of => k_is)
      (case kd_made_of => k_is)
      (case l_operations => k_is)
      (case cd_ok_operations => k_is)
      (case kd_operations => k_is)
      (case l_told => k_is)
      (case cd_ok_told => k_is)
      (case kd_told => k_is)
      (case l_WeightDraft_init => k_is)
      (case cd_ok_WeightDraft_init => k_is)
      (case kd_WeightDraft_init => k_is)
      (case l_WeightDraft_weigh => k_is)
      (case cd_ok_WeightDraft_weigh => k_is)
      (case kd_WeightDraft_weigh => k_is)
      (case l_WeightDraft_weigh_outs => k_is)
      (case cd_ok_WeightDraft_weigh_outs => k_is)
      (case kd_WeightDraft_weigh_outs => k_is)
      (case l_WeightDraft_pass_on => k_is)
      (case cd_ok_WeightDraft_pass_on => k_is)
      (case kd_WeightDraft_pass_on => k_is)
      (case l_WeightDraft_pass_on_quotient => k_is)
      (case cd_ok_WeightDraft_pass_on_quotient => k_is)
      (case kd_WeightDraft_pass_on_quotient => k_is)
      (case l_WeightDraft_put_sum => k_is)
      (case cd_ok_WeightDraft_put_sum => k_is)
      (case kd_WeightDraft_put_sum => k_is)
      (case l_WeightDraft_gather => k_is)
      (case cd_ok_WeightDraft_gather => k_is)
      (case kd_WeightDraft_gather => k_is)
      (case l_backward => k_is)
      (case cd_ok_backward => k_is)
      (case kd_backward => k_is)
      (case l_ChangeDraft_init => k_is)
      (case cd_ok_ChangeDraft_init => k_is)
      (case kd_ChangeDraft_init => k_is)
      (case l_ChangeDraft_put_change => k_is)
      (case cd_ok_ChangeDraft_put_change => k_is)
      (case kd_ChangeDraft_put_change => k_is)
      (case l_ChangeDraft_opposite_of => k_is)
      (case cd_ok_ChangeDraft_opposite_of => k_is)
      (case kd_ChangeDraft_opposite_of => k_is)
      (case l_ChangeDraft_change_of_sum => k_is)
      (case cd_ok_ChangeDraft_change_of_sum => k_is)
      (case kd_ChangeDraft_change_of_sum => k_is)
      (case l_ChangeDraft_change_of_difference => k_is)
      (case cd_ok_ChangeDraft_change_of_difference => k_is)
      (case kd_ChangeDraft_change_of_difference => k_is)
      (case l_ChangeDraft_change_of_product => k_is)
      (case cd_ok_ChangeDraft_change_of_product => k_is)
      (case kd_ChangeDraft_change_of_product => k_is)
      (case l_ChangeDraft_change_of_quotient => k_is)
      (case cd_ok_ChangeDraft_change_of_quotient => k_is)
      (case kd_ChangeDraft_change_of_quotient => k_is)
      (case l_ChangeDraft_divided => k_is)
      (case cd_ok_ChangeDraft_divided => k_is)
      (case kd_ChangeDraft_divided => k_is)
      (case l_ChangeDraft_put_out => k_is)
      (case cd_ok_ChangeDraft_put_out => k_is)
      (case kd_ChangeDraft_put_out => k_is)
      (case l_forward => k_is)
      (case cd_ok_forward => k_is)
      (case kd_forward => k_is)
      (case l_common_divisor => k_is)
      (case cd_ok_common_divisor => k_is)
      (case kd_common_divisor => k_is)
      (case l_lowest => k_is)
      (case cd_ok_lowest => k_is)
      (case kd_lowest => k_is)
      (case l_weight => k_is)
      (case cd_ok_weight => k_is)
      (case kd_weight => k_is)
      (case l_opposite => k_is)
      (case cd_ok_opposite => k_is)
      (case kd_opposite => k_is)
      (case l_plus => k_is)
      (case cd_ok_plus => k_is)
      (case kd_plus => k_is)
      (case l_minus => k_is)
      (case cd_ok_minus => k_is)
      (case kd_minus => k_is)
      (case l_times => k_is)
      (case cd_ok_times => k_is)
      (case kd_times => k_is)
      (case l_over => k_is)
      (case cd_ok_over => k_is)
      (case kd_over => k_is)
      (case l_Refusal_init => k_is)
      (case cd_ok_Refusal_init => k_is)
      (case kd_Refusal_init => k_is)
      (case l_OutOfRange_init => k_is)
      (case cd_ok_OutOfRange_init => k_is)
      (case kd_OutOfRange_init => k_is)
      (case l_BadForm_init => k_is)
      (case cd_ok_BadForm_init => k_is)
      (case kd_BadForm_init => k_is)
      (case l_NotThere_init => k_is)
      (case cd_ok_NotThere_init => k_is)
      (case kd_NotThere_init => k_is)
      (case l_TooLarge_init => k_is)
      (case cd_ok_TooLarge_init => k_is)
      (case kd_TooLarge_init => k_is)
      (case l_check_choice => k_is)
      (case cd_ok_check_choice => k_is)
      (case kd_check_choice => k_is)
      (case l_read_line => k_is)
      (case cd_ok_read_line => k_is)
      (case kd_read_line => k_is)
      (case l_read_lines => k_is)
      (case cd_ok_read_lines => k_is)
      (case kd_read_lines => k_is)
      (case l_check_uses => k_is)
      (case cd_ok_check_uses => k_is)
      (case kd_check_uses => k_is)
      (case l_check_outs => k_is)
      (case cd_ok_check_outs => k_is)
      (case kd_check_outs => k_is)
      (case l_read_program => k_is)
      (case cd_ok_read_program => k_is)
      (case kd_read_program => k_is)
      (case l_read_fractions => k_is)
      (case cd_ok_read_fractions => k_is)
      (case kd_read_fractions => k_is)
      (case l_worked_out => k_is)
      (case cd_ok_worked_out => k_is)
      (case kd_worked_out => k_is)
      (case l_run => k_is)
      (case cd_ok_run => k_is)
      (case kd_run => k_is)
      (case l_is_too_large => k_is)
      (case cd_ok_is_too_large => k_is)
      (case kd_is_too_large => k_is)
      (case l_check_text => k_is)
      (case cd_ok_check_text => k_is)
      (case kd_check_text => k_is)
      (case l_input_name => k_is)
      (case cd_ok_input_name => k_is)
      (case kd_input_name => k_is)
      (case l_constant_name => k_is)
      (case cd_ok_constant_name => k_is)
      (case kd_constant_name => k_is)
      (case l_line_name => k_is)
      (case cd_ok_line_name => k_is)
      (case kd_line_name => k_is)
      (case l_let_part => k_is)
      (case cd_ok_let_part => k_is)
      (case kd_let_part => k_is)
      (case l_text_of => k_is)
      (case cd_ok_text_of => k_is)
      (case kd_text_of => k_is)
      (case l_needed_ones => k_is)
      (case cd_ok_needed_ones => k_is)
      (case kd_needed_ones => k_is)
      (case l_needed_lines => k_is)
      (case cd_ok_needed_lines => k_is)
      (case kd_needed_lines => k_is)
      (case l_renamed => k_is)
      (case cd_ok_renamed => k_is)
      (case kd_renamed => k_is)
      (case l_trimmed => k_is)
      (case cd_ok_trimmed => k_is)
      (case kd_trimmed => k_is)
      (case l_trimmed_if => k_is)
      (case cd_ok_trimmed_if => k_is)
      (case kd_trimmed_if => k_is)
      (case l_Held_init => k_is)
      (case cd_ok_Held_init => k_is)
      (case kd_Held_init => k_is)
      (case l_Held_answer_call => k_is)
      (case cd_ok_Held_answer_call => k_is)
      (case kd_Held_answer_call => k_is)
      (case l_Held_take_code => k_is)
      (case cd_ok_Held_take_code => k_is)
      (case kd_Held_take_code => k_is)
      (case l_Held_tell_back => k_is)
      (case cd_ok_Held_tell_back => k_is)
      (case kd_Held_tell_back => k_is)
      (case l_Held_tell_ahead => k_is)
      (case cd_ok_Held_tell_ahead => k_is)
      (case kd_Held_tell_ahead => k_is)
      (case l_Held_adopt_derivative => k_is)
      (case cd_ok_Held_adopt_derivative => k_is)
      (case kd_Held_adopt_derivative => k_is)
      (case l_Held_run_held => k_is)
      (case cd_ok_Held_run_held => k_is)
      (case kd_Held_run_held => k_is)
      (case l_Held_run_gradient => k_is)
      (case cd_ok_Held_run_gradient => k_is)
      (case kd_Held_run_gradient => k_is)
      (case l_Held_run_change => k_is)
      (case cd_ok_Held_run_change => k_is)
      (case kd_Held_run_change => k_is)
      (case l_Held_tell_ops => k_is)
      (case cd_ok_Held_tell_ops => k_is)
      (case kd_Held_tell_ops => k_is)
      (case l_Held_tell_text => k_is)
      (case cd_ok_Held_tell_text => k_is)
      (case kd_Held_tell_text => k_is)
      (case l_Held_tell_needed => k_is)
      (case cd_ok_Held_tell_needed => k_is)
      (case kd_Held_tell_needed => k_is)
      (case l_Taker_init => k_is)
      (case cd_ok_Taker_init => k_is)
      (case kd_Taker_init => k_is)
      (case l_Taker_is_done => k_is)
      (case cd_ok_Taker_is_done => k_is)
      (case kd_Taker_is_done => k_is)
      (case l_Taker_take => k_is)
      (case cd_ok_Taker_take => k_is)
      (case kd_Taker_take => k_is)
      (case l_Taker_take_number => k_is)
      (case cd_ok_Taker_take_number => k_is)
      (case kd_Taker_take_number => k_is)
      (case l_Taker_take_row => k_is)
      (case cd_ok_Taker_take_row => k_is)
      (case kd_Taker_take_row => k_is)
      (case l_answer_next => k_is)
      (case cd_ok_answer_next => k_is)
      (case kd_answer_next => k_is)
      (case l_answers => k_is)
      (case cd_ok_answers => k_is)
      (case kd_answers => k_is)
      (case c_INPUT => k_is)
      (case c_CONSTANT => k_is)
      (case c_SUM => k_is)
      (case c_DIFFERENCE => k_is)
      (case c_PRODUCT => k_is)
      (case c_QUOTIENT => k_is)
      (case c_OPPOSITE => k_is)
      (case c_MOST_INPUTS_reading => k_is)
      (case c_MOST_LINES => k_is)
      (case c_MOST_OUTS_reading => k_is)
      (case c_DIVISOR_IS_ZERO => k_is)
      (case c_TOO_HEAVY => k_is)
      (case c_HEAVIEST => k_is)
      (case c_MOST_INPUTS_texts => k_is)
      (case c_MOST_OUTS_texts => k_is)
      (case c_MOST_OPERATIONS => k_is)
      (case c_TOO_LARGE_A_NUMBER => k_is)
      (case c_CODE => k_is)
      (case c_BACK => k_is)
      (case c_AHEAD => k_is)
      (case c_ADOPT => k_is)
      (case c_RUN => k_is)
      (case c_GRADIENT => k_is)
      (case c_CHANGE => k_is)
      (case c_OPS => k_is)
      (case c_TEXT => k_is)
      (case c_LINES => k_is)
      (case c_MOST_ADOPTED_INPUTS => k_is)
      (case c_MOST_ADOPTED_LINES => k_is)
      (case c_SIZES => k_is)
      (case lk_SIZES => k_is)
      (case c_SIGNS => k_is)
      (case lk_SIGNS => k_is)
      (case c_SHAPES => k_is)
      (case lk_SHAPES => k_is)
      (case lk_SHAPES_0 => k_is)
      (case lk_SHAPES_1 => k_is)
      (case lk_SHAPES_2 => k_is)
      (case lk_SHAPES_3 => k_is)
      (case lk_SHAPES_4 => k_is)
      (case lk_SHAPES_5 => k_is)
      (case lk_SHAPES_6 => k_is)
      (case lk_SHAPES_7 => k_is)
      (case lk_SHAPES_8 => k_is)
      (case lk_SHAPES_9 => k_is)
      (case lk_SHAPES_10 => k_is)
      (case exI => k_is)
      (case f_Exception => k_is)
      (case f_abs => k_is)
      (case f_any => k_is)
      (case f_enumerate => k_is)
      (case f_len => k_is)
      (case f_list => k_is)
      (case f_max => k_is)
      (case f_min => k_is)
      (case f_ord => k_is)
      (case f_range => k_is)
      (case f_tuple => k_is)
  case S =>
    intro K H xs a hO hwi hask hx
    cases hx with
    | cons h1 h2 =>
      cases h2
      cases h1 with
      | lst hs ha =>
        have e := L2.ints_dw a.1 _ ha
        subst e
        exact ⟨_, a.1, rfl, hs, hask, fun H' p hp => .lst (L2.SqL.of hp) (L2.dw_ints _)⟩
