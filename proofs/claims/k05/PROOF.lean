import PyProof.Rows.All
import Wide.All
import OpenK.AllK
import Wide.FinOn
import HandS.ForMost
import HandS.ForExc
import HandS.Defaults
import HandS.IsInst
import HandS.Flow
import HandS.HeadHook1
import HandS.Evl
import HandS.HotCalls
import HandS.ExcIs
import KE.KStateDown
import Lean
import HandS.More
import HandS.Head0
import HandS.Head1
import HandS.Head2
import HandS.HeadEnd
import HandS.HeadHook2
import HandS.AnyAll
import KE.KNest
import KE.KNestM
import HandS.Lambda
import HandS.EndTab
import HandS.HeadWalk
import HandS.HeadHook4
import HandS.Text
import HandS.Walk
import HandS.Flt
import HandS.Conv
import PyProof.Rows.StrRev
import HandS.Style
import HandS.SortKw
import KE.DataMinMax
import PyProof.Draws
import PyProof.EnumMake
import PySem.Challenge.RW_nearword_k05_ways_and_distances
set_option Elab.async false
set_option linter.all false
set_option maxRecDepth 100000
set_option maxHeartbeats 1000000
/-! Lev: the distance of two words, by its rows and by its rows of changes. Core Lean. -/
namespace Lv
/-- n changes lead from the one to the other, told from the front -/
inductive E : Nat → List Nat → List Nat → Prop where
  | nil : E 0 [] []
  | ins {n : Nat} {a b : List Nat} (y : Nat) (h : E n a b) : E (n + 1) a (y :: b)
  | del {n : Nat} {a b : List Nat} (x : Nat) (h : E n a b) : E (n + 1) (x :: a) b
  | keep {n : Nat} {a b : List Nat} (x : Nat) (h : E n a b) : E n (x :: a) (x :: b)
  | sub {n : Nat} {a b : List Nat} (x y : Nat) (h : E n a b) : E (n + 1) (x :: a) (y :: b)
def lev : List Nat → List Nat → Nat
  | [], b => b.length
  | x :: a, [] => a.length + 1
  | x :: a, y :: b => min (lev a b + if x = y then 0 else 1) (min (lev a (y :: b) + 1) (lev (x :: a) b + 1))
theorem lev_nil_left (b : List Nat) : lev [] b = b.length := by cases b <;> simp [lev]
theorem lev_nil_right (a : List Nat) : lev a [] = a.length := by cases a <;> simp [lev]
theorem lev_cc (x y : Nat) (a b : List Nat) : lev (x :: a) (y :: b) = min (lev a b + if x = y then 0 else 1) (min (lev a (y :: b) + 1) (lev (x :: a) b + 1)) := by
  rw [lev]
theorem E.of_nil_left : ∀ b : List Nat, E b.length [] b
  | [] => .nil
  | y :: b => .ins y (E.of_nil_left b)
theorem E.of_nil_right : ∀ a : List Nat, E a.length a []
  | [] => .nil
  | x :: a => .del x (E.of_nil_right a)
theorem E.lev : ∀ (a b : List Nat), E (lev a b) a b
  | [], b => by rw [lev_nil_left]; exact E.of_nil_left b
  | x :: a, [] => by rw [lev_nil_right]; exact E.of_nil_right _
  | x :: a, y :: b => by
    have h1 := E.lev a b
    have h2 := E.lev a (y :: b)
    have h3 := E.lev (x :: a) b
    rw [lev_cc]
    rcases Nat.le_total (Lv.lev a b + if x = y then 0 else 1) (min (Lv.lev a (y :: b) + 1) (Lv.lev (x :: a) b + 1)) with h | h
    · rw [Nat.min_eq_left h]
      by_cases e : x = y
      · subst e; rw [if_pos rfl]; exact .keep x h1
      · rw [if_neg e]; exact .sub x y h1
    · rw [Nat.min_eq_right h]
      rcases Nat.le_total (Lv.lev a (y :: b) + 1) (Lv.lev (x :: a) b + 1) with h | h
      · rw [Nat.min_eq_left h]; exact .del x h2
      · rw [Nat.min_eq_right h]; exact .ins y h3
termination_by a b => a.length + b.length
theorem lev_le {n : Nat} {a b : List Nat} (h : E n a b) : lev a b ≤ n := by
  induction h with
  | nil => simp [lev]
  | @ins n a b y h ih =>
    cases a with
    | nil => rw [lev_nil_left] at ih ⊢; simp only [List.length_cons]; omega
    | cons x a => rw [lev_cc]; omega
  | @del n a b x h ih =>
    cases b with
    | nil => rw [lev_nil_right] at ih ⊢; simp only [List.length_cons]; omega
    | cons y b => rw [lev_cc]; omega
  | keep x h ih => rw [lev_cc, if_pos rfl]; omega
  | sub x y h ih => rw [lev_cc]; split <;> omega
theorem E.symm {n : Nat} {a b : List Nat} (h : E n a b) : E n b a := by
  induction h with
  | nil => exact .nil
  | ins y h ih => exact .del y ih
  | del x h ih => exact .ins x ih
  | keep x h ih => exact .keep x ih
  | sub x y h ih => exact .sub y x ih
theorem E.app {n m : Nat} {a b c d : List Nat} (h : E n a b) (k : E m c d) : E (n + m) (a ++ c) (b ++ d) := by
  induction h with
  | nil => rw [Nat.zero_add]; exact k
  | @ins n a b y h ih => rw [show n + 1 + m = n + m + 1 by omega]; exact .ins y ih
  | @del n a b x h ih => rw [show n + 1 + m = n + m + 1 by omega]; exact .del x ih
  | keep x h ih => exact .keep x ih
  | @sub n a b x y h ih => rw [show n + 1 + m = n + m + 1 by omega]; exact .sub x y ih
theorem E.rev {n : Nat} {a b : List Nat} (h : E n a b) : E n a.reverse b.reverse := by
  induction h with
  | nil => exact .nil
  | @ins n a b y h ih =>
    rw [List.reverse_cons]
    have := ih.app (E.ins y .nil)
    rw [List.append_nil] at this; exact this
  | @del n a b x h ih =>
    rw [List.reverse_cons]
    have := ih.app (E.del x .nil)
    rw [List.append_nil] at this; exact this
  | @keep n a b x h ih =>
    rw [List.reverse_cons, List.reverse_cons]
    exact ih.app (E.keep x .nil)
  | @sub n a b x y h ih =>
    rw [List.reverse_cons, List.reverse_cons]
    exact ih.app (E.sub x y .nil)
theorem E.refl : ∀ a : List Nat, E 0 a a
  | [] => .nil
  | x :: a => .keep x (E.refl a)
theorem E.eq_of_zero {n : Nat} {a b : List Nat} (h : E n a b) (hn : n = 0) : a = b := by
  induction h with
  | nil => rfl
  | ins y h ih => cases hn
  | del x h ih => cases hn
  | keep x h ih => rw [ih hn]
  | sub x y h ih => cases hn
theorem E.trans {n : Nat} {a b : List Nat} (h : E n a b) : ∀ {m : Nat} {c : List Nat}, E m b c → ∃ k, k ≤ n + m ∧ E k a c := by
  induction h with
  | nil => exact fun {m c} k => ⟨m, by omega, k⟩
  | @ins n a b y h ih =>
    intro m c k
    generalize hb : y :: b = yb at k
    induction k with
    | nil => cases hb
    | @ins m' b' c' z k ih2 =>
      obtain ⟨j, h1, h2⟩ := ih2 hb
      exact ⟨j + 1, by omega, .ins z h2⟩
    | @del m' b' c' z k ih2 =>
      injection hb with h1 h2
      subst h1 h2
      obtain ⟨j, h1, h2⟩ := ih k
      exact ⟨j, by omega, h2⟩
    | @keep m' b' c' z k ih2 =>
      injection hb with h1 h2
      subst h1 h2
      obtain ⟨j, h1, h2⟩ := ih k
      exact ⟨j + 1, by omega, .ins _ h2⟩
    | @sub m' b' c' z w k ih2 =>
      injection hb with h1 h2
      subst h1 h2
      obtain ⟨j, h1, h2⟩ := ih k
      exact ⟨j + 1, by omega, .ins _ h2⟩
  | @del n a b x h ih =>
    intro m c k
    obtain ⟨j, h1, h2⟩ := ih k
    exact ⟨j + 1, by omega, .del x h2⟩
  | @keep n a b x h ih =>
    intro m c k
    generalize hb : x :: b = yb at k
    induction k with
    | nil => cases hb
    | @ins m' b' c' z k ih2 =>
      obtain ⟨j, h1, h2⟩ := ih2 hb
      exact ⟨j + 1, by omega, .ins z h2⟩
    | @del m' b' c' z k ih2 =>
      injection hb with h1 h2
      subst h1 h2
      obtain ⟨j, h1, h2⟩ := ih k
      exact ⟨j + 1, by omega, .del _ h2⟩
    | @keep m' b' c' z k ih2 =>
      injection hb with h1 h2
      subst h1 h2
      obtain ⟨j, h1, h2⟩ := ih k
      exact ⟨j, by omega, .keep _ h2⟩
    | @sub m' b' c' z w k ih2 =>
      injection hb with h1 h2
      subst h1 h2
      obtain ⟨j, h1, h2⟩ := ih k
      exact ⟨j + 1, by omega, .sub _ _ h2⟩
  | @sub n a b x y h ih =>
    intro m c k
    generalize hb : y :: b = yb at k
    induction k with
    | nil => cases hb
    | @ins m' b' c' z k ih2 =>
      obtain ⟨j, h1, h2⟩ := ih2 hb
      exact ⟨j + 1, by omega, .ins z h2⟩
    | @del m' b' c' z k ih2 =>
      injection hb with h1 h2
      subst h1 h2
      obtain ⟨j, h1, h2⟩ := ih k
      exact ⟨j + 1, by omega, .del _ h2⟩
    | @keep m' b' c' z k ih2 =>
      injection hb with h1 h2
      subst h1 h2
      obtain ⟨j, h1, h2⟩ := ih k
      exact ⟨j + 1, by omega, .sub _ _ h2⟩
    | @sub m' b' c' z w k ih2 =>
      injection hb with h1 h2
      subst h1 h2
      obtain ⟨j, h1, h2⟩ := ih k
      exact ⟨j + 1, by omega, .sub _ _ h2⟩
theorem E.len {n : Nat} {a b : List Nat} (h : E n a b) : a.length ≤ b.length + n ∧ b.length ≤ a.length + n := by
  induction h with
  | nil => simp
  | ins y h ih => simp only [List.length_cons]; omega
  | del x h ih => simp only [List.length_cons]; omega
  | keep x h ih => simp only [List.length_cons]; omega
  | sub x y h ih => simp only [List.length_cons]; omega
theorem E.most : ∀ (a b : List Nat), ∃ n, n ≤ max a.length b.length ∧ E n a b
  | [], b => ⟨b.length, by simp, E.of_nil_left b⟩
  | x :: a, [] => ⟨a.length + 1, by simp, E.of_nil_right (x :: a)⟩
  | x :: a, y :: b => by
    obtain ⟨n, h1, h2⟩ := E.most a b
    exact ⟨n + 1, by simp only [List.length_cons]; omega, .sub x y h2⟩
/-! ### the distance -/
theorem lev_rev (a b : List Nat) : lev a.reverse b.reverse = lev a b := by
  have h1 := lev_le (E.lev a b).rev
  have h2 := (E.lev a.reverse b.reverse).rev
  rw [List.reverse_reverse, List.reverse_reverse] at h2
  have h3 := lev_le h2
  omega
theorem lev_symm (a b : List Nat) : lev a b = lev b a := by
  have h1 := lev_le (E.lev a b).symm
  have h2 := lev_le (E.lev b a).symm
  omega
theorem lev_tri (a b c : List Nat) : lev a c ≤ lev a b + lev b c := by
  obtain ⟨k, h1, h2⟩ := (E.lev a b).trans (E.lev b c)
  have := lev_le h2
  omega
theorem lev_self (a : List Nat) : lev a a = 0 := by have := lev_le (E.refl a); omega
theorem lev_zero {a b : List Nat} : lev a b = 0 ↔ a = b := by
  constructor
  · intro h; exact (E.lev a b).eq_of_zero h
  · intro h; rw [h]; exact lev_self b
theorem lev_len (a b : List Nat) : a.length ≤ b.length + lev a b ∧ b.length ≤ a.length + lev a b := (E.lev a b).len
theorem lev_most (a b : List Nat) : lev a b ≤ max a.length b.length := by
  obtain ⟨n, h1, h2⟩ := E.most a b
  have := lev_le h2
  omega
/-- the recurrence at the ends -/
theorem lev_snoc (a b : List Nat) (x y : Nat) : lev (a ++ [x]) (b ++ [y]) = min (lev a b + if x = y then 0 else 1) (min (lev a (b ++ [y]) + 1) (lev (a ++ [x]) b + 1)) := by
  have e : ∀ (c d : List Nat), lev c d = lev c.reverse d.reverse := fun c d => (lev_rev c d).symm
  rw [e (a ++ [x]) (b ++ [y]), e a (b ++ [y]), e (a ++ [x]) b, e a b]
  simp only [List.reverse_append, List.reverse_cons, List.reverse_nil, List.nil_append, List.singleton_append]
  exact lev_cc x y _ _
theorem lev_one (a : List Nat) (x : Nat) : lev a (a ++ [x]) ≤ 1 := by
  have := (E.refl a).app (E.ins x .nil)
  rw [List.append_nil] at this
  have := lev_le this
  omega
theorem lev_same_end (a b : List Nat) (x : Nat) : lev (a ++ [x]) (b ++ [x]) = lev a b := by
  rw [lev_snoc, if_pos rfl]
  have h1 := lev_tri a (b ++ [x]) b
  have h2 := lev_one b x
  rw [lev_symm] at h2
  have h3 := lev_tri a (a ++ [x]) b
  have h4 := lev_one a x
  omega
theorem lev_same_front (a b : List Nat) (x : Nat) : lev (x :: a) (x :: b) = lev a b := by
  rw [← lev_rev (x :: a), ← lev_rev a, List.reverse_cons, List.reverse_cons, lev_same_end]
/-! ### rows -/
/-- the distances of p and b's beginnings -/
def row (p b : List Nat) : List Nat := (List.range (b.length + 1)).map fun j => lev p (b.take j)
theorem row_len (p b : List Nat) : (row p b).length = b.length + 1 := by simp [row]
theorem row_get {p b : List Nat} {j : Nat} (h : j ≤ b.length) : (row p b)[j]? = some (lev p (b.take j)) := by
  unfold row
  rw [List.getElem?_map, List.getElem?_range (by omega)]; rfl
theorem row_nil (b : List Nat) : row [] b = List.range (b.length + 1) := by
  unfold row
  refine List.ext_getElem (by simp) fun i h1 h2 => ?_
  simp only [List.getElem_map, List.getElem_range, lev_nil_left, List.length_take]
  simp at h1
  omega
theorem lev_take {p b : List Nat} {j x y : Nat} (h : b[j]? = some y) : lev (p ++ [x]) (b.take (j + 1)) = min (lev p (b.take j) + if y = x then 0 else 1) (min (lev p (b.take (j + 1)) + 1) (lev (p ++ [x]) (b.take j) + 1)) := by
  have e : b.take (j + 1) = b.take j ++ [y] := by rw [List.take_add_one, h]; rfl
  rw [e, lev_snoc]
  by_cases q : x = y
  · subst q; rfl
  · rw [if_neg q, if_neg (fun z => q z.symm)]
/-- none of a longer one's row is below all of the shorter one's -/
theorem row_down {p b : List Nat} {x : Nat} : ∀ (j : Nat), j ≤ b.length → ∃ k, k ≤ b.length ∧ lev p (b.take k) ≤ lev (p ++ [x]) (b.take j)
  | 0, _ => ⟨0, by omega, by rw [List.take_zero, lev_nil_right, lev_nil_right, List.length_append]; omega⟩
  | j + 1, h => by
    have hj : b[j]? = some b[j] := List.getElem?_eq_getElem (by omega)
    rw [lev_take hj]
    obtain ⟨k, h1, h2⟩ := row_down (p := p) (b := b) (x := x) j (by omega)
    rcases Nat.le_total (lev p (b.take j) + if b[j] = x then 0 else 1) (min (lev p (b.take (j + 1)) + 1) (lev (p ++ [x]) (b.take j) + 1)) with q | q
    · rw [Nat.min_eq_left q]; exact ⟨j, by omega, by omega⟩
    · rw [Nat.min_eq_right q]
      rcases Nat.le_total (lev p (b.take (j + 1)) + 1) (lev (p ++ [x]) (b.take j) + 1) with q | q
      · rw [Nat.min_eq_left q]; exact ⟨j + 1, h, by omega⟩
      · rw [Nat.min_eq_right q]; exact ⟨k, h1, by omega⟩
/-- some beginning of b is no farther from p than m -/
def Nearb (m : Nat) (p b : List Nat) : Prop := ∃ j, j ≤ b.length ∧ lev p (b.take j) ≤ m
theorem Nearb.up {m : Nat} {p b : List Nat} {x : Nat} (h : Nearb m (p ++ [x]) b) : Nearb m p b := by
  obtain ⟨j, h1, h2⟩ := h
  obtain ⟨k, h3, h4⟩ := row_down (p := p) (x := x) j h1
  exact ⟨k, h3, by omega⟩
end Lv

/-! B0: a def of the text, by its name; calls by name; the steps of a reading. -/
namespace N0
open PySem PySem.Spec PyProof.Rows L2

/-- where the def st stands -/
structure At (K : PySem.W.Frag) (mg : Str → Option Value) (x : Str) (st : Stmt) : Prop where
  ex : ∃ (f : Addr) (fd : FuncData), mg x = some (.ref f) ∧ FunD K x x (defArgs st) (defBody st) (defScope st) [] [] f fd
/-- the def called x keeps the promise sp -/
structure Dd (P : Program) (w : World) (K : PySem.W.Frag) (mg : Str → Option Value) (base : Heap) (CX : CXT) (k : Nat) (x : Str) (ps : List Str) (sp : Sp) : Prop where
  ex : ∃ (f : Addr) (fd : FuncData), mg x = some (.ref f) ∧ PySem.W.keepIn K (.ref f) = true ∧ Binds K fd ps [] ∧ FnOk P w K mg base CX k f fd ps sp ∧ ∃ oc od osl, K.lookup f = some ⟨oc, od, .func fd, osl⟩
section
variable {P : Program} {w : World} {K : PySem.W.Frag} {mg : Str → Option Value} {base : Heap} {x : Str} {st : Stmt} {N ps : List Str} {sp : Sp} {k : Nat}
/-- how the arguments of a def without defaults bind -/
def BindN (x : Str) (st : Stmt) (ps : List Str) : Prop := ∀ (kV doc pm : Value) (an : Option Addr) (cdv ct : Value) (us : List Value), us.length = ps.length →
  bindArgs (PySem.W.fnOf x x (defArgs st) (defBody st) (defScope st) .none kV doc pm an cdv ct) ⟨us, []⟩ = pure (ps.zip us)
theorem fn_there {x qual : Str} {pa : Arguments} {bd : List Stmt} {sc : Scope} {dvs : List V} {kws : List (Str × V)} {f : Addr} {fd : FuncData} (F : FunD K x qual pa bd sc dvs kws f fd) : ∃ oc od osl, K.lookup f = some ⟨oc, od, .func fd, osl⟩ := by
  obtain ⟨oc, od, _, _, _, _, _, _, _, osl, _, h, _⟩ := F.ex
  exact ⟨oc, od, osl, h⟩
theorem At.ok (A : At K mg x st) (S : FnScope N ps (defScope st)) (hb : BindN x st ps) (len : ∀ vs H Q E, sp vs H Q E → vs.length = ps.length)
    (hbody : ∀ (f : Addr) (cdv : Value) (A : Around) (outer : List Env) (s : Shared) (H : Hp) (vs : List V) (Q : VK) (E : XK), Room k (A.deeper (envOfC x (defScope st) s.heap.objs.size f cdv)) → sp vs H Q E →
      ∃ t, PSs (cxOf CX0 P w K mg base N x (defScope st) f cdv A outer s H E).nox (defBody st) t ∧ t { nx := fun _ H' => Q .non H', rt := Q } (start N vs) H) : Dd P w K mg base CX0 (k + 1) x ps sp := by
  obtain ⟨f, fd, hm, F⟩ := A.ex
  refine ⟨f, fd, hm, F.kp, F.bindsN hb, F.ok S len (fun cdv A outer s H vs Q E hr h => ?_), fn_there F⟩
  obtain ⟨t, h1, h2⟩ := hbody f cdv A outer s H vs Q E hr h
  exact ⟨t, h1.nox, h2⟩
theorem At.okX (A : At K mg x st) (S : FnScope N ps (defScope st)) (hb : BindN x st ps) (len : ∀ vs H Q E, sp vs H Q E → vs.length = ps.length)
    (hbody : ∀ (f : Addr) (cdv : Value) (A : Around) (outer : List Env) (s : Shared) (H : Hp) (vs : List V) (Q : VK) (E : XK), Room k (A.deeper (envOfC x (defScope st) s.heap.objs.size f cdv)) → sp vs H Q E →
      ∃ t, PSs (cxOf (L2.CX P w) P w K mg base N x (defScope st) f cdv A outer s H E) (defBody st) t ∧ t { nx := fun _ H' => Q .non H', rt := Q } (start N vs) H) : Dd P w K mg base (L2.CX P w) (k + 1) x ps sp := by
  obtain ⟨f, fd, hm, F⟩ := A.ex
  exact ⟨f, fd, hm, F.kp, F.bindsN hb, F.ok S len (fun cdv A outer s H vs Q E hr h => hbody f cdv A outer s H vs Q E hr h), fn_there F⟩
/-- the law's def, over each base the same function -/
theorem Dd.at {CX : CXT} {f : Addr} {fd : FuncData} (D : Dd P w K mg base CX k x ps sp) (hm : mg x = some (.ref f)) (hl : ∃ oc od osl, K.lookup f = some ⟨oc, od, .func fd, osl⟩) : FnOk P w K mg base CX k f fd ps sp := by
  obtain ⟨f1, fd1, hm1, _, _, F, oc, od, osl, e⟩ := D.ex
  rw [hm] at hm1
  injection hm1 with z
  injection z with z
  subst z
  obtain ⟨oc', od', osl', e'⟩ := hl
  rw [e] at e'
  injection e' with e'
  injection e' with _ _ e' _
  injection e' with e'
  subst e'
  exact F
end
section
variable {X : Cx} {CX : CXT} {k : Nat} {ps : List Str} {sp : Sp} {E : XK} {x : Str} {p pos : Pos} {e : Expr} {es : List Expr} {t : TA}
theorem pe_callD (D : Dd X.prog X.w X.K X.mg X.base CX k x ps sp) (hr : Room k X.A) (hg : Gl X x) (hx : Passes CX X E) (ha : PA X (e :: es) t) (hdb : (x == ("__debug__" : Str)) = false := by decide)
    (he : starEach (e :: es) X.env = (false, eval e X.env) :: starEach es X.env := by rfl) (hpl : (backTo pos (starEach es X.env)).any (·.1) = false := by rfl) :
    PE X (.Call (.Name x p) (e :: es) [] pos) (tCall sp [] E t) := by
  obtain ⟨f, fd, hm, hk, hb, F, _⟩ := D.ex
  exact pe_call F hr hg hm hk hb .nil hx ha hdb he hpl
theorem pe_callD0 (D : Dd X.prog X.w X.K X.mg X.base CX k x ps sp) (hr : Room k X.A) (hg : Gl X x) (hx : Passes CX X E) (hdb : (x == ("__debug__" : Str)) = false := by decide) :
    PE X (.Call (.Name x p) [] [] pos) (tCall sp [] E tNil) := by
  obtain ⟨f, fd, hm, hk, hb, F, _⟩ := D.ex
  exact pe_call0 F hr hg hm hk hb .nil hx hdb
theorem pe_callDS {E : L2.St → XK} (D : Dd X.prog X.w X.K X.mg X.base CX k x ps sp) (hr : Room k X.A) (hg : Gl X x) (hx : ∀ σ, PassesAt CX X σ (E σ)) (ha : PA X (e :: es) t) (hdb : (x == ("__debug__" : Str)) = false := by decide)
    (he : starEach (e :: es) X.env = (false, eval e X.env) :: starEach es X.env := by rfl) (hpl : (backTo pos (starEach es X.env)).any (·.1) = false := by rfl) :
    PE X (.Call (.Name x p) (e :: es) [] pos) (tCallS sp E t) := by
  obtain ⟨f, fd, hm, hk, hb, F, _⟩ := D.ex
  exact pe_callS F hr hg hm hk hb hx ha hdb he hpl
end
end N0

/-! B1: texts as lists of codes; kinds of things; letters and words. -/
namespace N0
open PySem PySem.Spec PyProof.Rows L2

/-! ### texts -/
/-- the text of these codes -/
def mkS (l : List Nat) : Str := ⟨l.toArray⟩
theorem mkS_of (z : Str) : z = mkS z.cps.toList := by obtain ⟨a⟩ := z; simp [mkS]
theorem mkS_cps (l : List Nat) : (mkS l).cps.toList = l := by simp [mkS]
theorem mkS_len (l : List Nat) : (mkS l).length = l.length := by simp [mkS, Str.length]
theorem mkS_inj {l m : List Nat} : mkS l = mkS m ↔ l = m := by
  constructor
  · intro h
    have := congrArg (fun z : Str => z.cps.toList) h
    simpa [mkS] using this
  · intro h; rw [h]
theorem mkS_app (l m : List Nat) : mkS l ++ mkS m = mkS (l ++ m) := by
  show Str.append (mkS l) (mkS m) = mkS (l ++ m)
  simp [Str.append, mkS]
theorem mkS_dec (l m : List Nat) : decide (V.str (mkS l) = V.str (mkS m)) = decide (l = m) := by
  rw [Bool.eq_iff_iff, decide_eq_true_iff, decide_eq_true_iff]
  constructor
  · intro h; injection h with h; exact mkS_inj.mp h
  · intro h; rw [h]
theorem sIx_some {n d : Nat} {i : Int} (h0 : 0 ≤ i) : HT.sIx n d (some i) = min i.toNat n := by
  obtain ⟨k, rfl⟩ := Int.eq_ofNat_of_zero_le h0
  simp [HT.sIx_nat]
theorem cut_to {l : List Nat} {i : Int} (h0 : 0 ≤ i) : cutS (mkS l) none (some i) = mkS (l.take i.toNat) := by
  show (⟨_⟩ : Str) = ⟨_⟩
  rw [mkS_cps, mkS_len, sIx_some h0]
  show (⟨((l.drop 0).take (min i.toNat l.length - 0)).toArray⟩ : Str) = ⟨(l.take i.toNat).toArray⟩
  rw [List.drop_zero, Nat.sub_zero]
  congr 2
  rcases Nat.le_total i.toNat l.length with h | h
  · rw [Nat.min_eq_left h]
  · rw [Nat.min_eq_right h, List.take_of_length_le h, List.take_of_length_le (Nat.le_refl _)]
theorem cut_from {l : List Nat} {i : Int} (h0 : 0 ≤ i) : cutS (mkS l) (some i) none = mkS (l.drop i.toNat) := by
  show (⟨_⟩ : Str) = ⟨_⟩
  rw [mkS_cps, mkS_len, sIx_some h0]
  show (⟨((l.drop (min i.toNat l.length)).take (l.length - min i.toNat l.length)).toArray⟩ : Str) = ⟨(l.drop i.toNat).toArray⟩
  congr 2
  rcases Nat.le_total i.toNat l.length with h | h
  · rw [Nat.min_eq_left h]
    exact List.take_of_length_le (by rw [List.length_drop]; omega)
  · rw [Nat.min_eq_right h, List.drop_of_length_le (Nat.le_refl _), List.drop_of_length_le h]
    simp
theorem str1 (c : Nat) : (⟨#[c]⟩ : Str) = mkS [c] := rfl
theorem small_line {n : Nat} (h : n ≤ 100000) : n ≤ sizeLine := Nat.le_trans h (by decide)
/-- a letter from a to z -/
def Lc (c : Nat) : Prop := 97 ≤ c ∧ c ≤ 122
instance (c : Nat) : Decidable (Lc c) := inferInstanceAs (Decidable (97 ≤ c ∧ c ≤ 122))
def Wd (l : List Nat) : Prop := ∀ c ∈ l, Lc c
theorem Wd.nil : Wd [] := fun _ h => nomatch h
theorem Wd.app {l m : List Nat} (h : Wd l) (k : Wd m) : Wd (l ++ m) := fun c hc => (List.mem_append.mp hc).elim (h c) (k c)
theorem Wd.take {l : List Nat} (h : Wd l) (n : Nat) : Wd (l.take n) := fun c hc => h c (List.mem_of_mem_take hc)
theorem Wd.drop {l : List Nat} (h : Wd l) (n : Nat) : Wd (l.drop n) := fun c hc => h c (List.mem_of_mem_drop hc)
theorem Wd.one {c : Nat} (h : Lc c) : Wd [c] := fun d hd => by rw [List.mem_singleton.mp hd]; exact h
def alpha : List Nat := [97, 98, 99, 100, 101, 102, 103, 104, 105, 106, 107, 108, 109, 110, 111, 112, 113, 114, 115, 116, 117, 118, 119, 120, 121, 122]
theorem alpha_str : ("abcdefghijklmnopqrstuvwxyz" : Str) = mkS alpha := by decide +kernel
theorem alpha_mem (c : Nat) : c ∈ alpha ↔ Lc c := by
  unfold alpha Lc
  simp only [List.mem_cons, List.not_mem_nil, or_false]
  omega
theorem alpha_at {i : Int} (h0 : 0 ≤ i) (h1 : i < 26) : ∃ c, atI alpha i = some c ∧ Lc c := by
  obtain ⟨k, rfl⟩ := Int.eq_ofNat_of_zero_le h0
  have hk : k < alpha.length := by show k < 26; omega
  exact ⟨alpha[k], atI_nat (List.getElem?_eq_getElem hk), (alpha_mem _).mp (List.getElem_mem hk)⟩

/-! ### kinds -/
/-- a thing of a built-in kind -/
inductive Kn (H : Hp) : V → String → Prop where
  | non : Kn H .non "NoneType"
  | bl (b : Bool) : Kn H (.bl b) "bool"
  | int (i : Int) : Kn H (.int i) "int"
  | str (z : Str) : Kn H (.str z) "str"
  | lst {a : Addr} {xs : List V} (e : H a = some (.lst xs)) : Kn H (.ref a) "list"
  | tup {a : Addr} {xs : List V} (e : H a = some (.tup xs)) : Kn H (.ref a) "tuple"
  | dK {a : Addr} {kvs : List (Key × V)} (e : H a = some (.dK kvs)) : Kn H (.ref a) "dict"
theorem Kn.same {H H' : Hp} {x : V} {T : String} (k : Kn H x T) (s : Same H H') : Kn H' x T := by
  cases k with
  | non => exact .non
  | bl b => exact .bl b
  | int i => exact .int i
  | str z => exact .str z
  | lst e => exact .lst (s _ _ e)
  | tup e => exact .tup (s _ _ e)
  | dK e => exact .dK (s _ _ e)
theorem Kn.ty {K : PySem.W.Frag} {H : Hp} {x : V} {T : String} (k : Kn H x T) : TyX K H x (.type T) := by
  cases k with
  | non => exact .base .non
  | bl b => exact .base (.bl b)
  | int i => exact .base (.int i)
  | str z => exact .base (.str z)
  | lst e => exact .base (.lst e)
  | tup e => exact .base (.tup e)
  | dK e => exact .base (.dK e)
def isK (T U : String) : Bool := decide (T = U) || (decide (T = "bool") && decide (U = "int"))
theorem Kn.is {K : PySem.W.Frag} {H : Hp} {x : V} {T : String} (k : Kn H x T) : ∀ U ∈ ["int", "bool", "str", "list", "tuple"], PySem.W.kitOne K (.type T) (.type U) = some (isK T U) := by
  intro U hU
  refine kit_ty ?_
  simp only [List.mem_cons, List.not_mem_nil, or_false] at hU
  cases k <;> rcases hU with rfl | rfl | rfl | rfl | rfl <;> decide +kernel
/-- isinstance(x, U), U one of five kinds -/
def rIsK : List V → Hp → VK → Prop := fun xs H Q => ∃ (x : V) (T U : String), xs = [x, .ty U] ∧ U ∈ ["int", "bool", "str", "list", "tuple"] ∧ Kn H x T ∧ Q (.bl (isK T U)) H
theorem call_isK {X : Cx} : CallR X (.builtin "isinstance") rIsK := by
  intro pins s σ H xs us Q I r h
  obtain ⟨x, T, U, rfl, hU, k, q⟩ := h
  exact call_isi pins s σ H _ us Q I r ⟨x, .ty U, .type T, .type U, isK T U, rfl, .ty U, k.ty, k.is U hU, q⟩
theorem Kn.fun {H : Hp} {x : V} {T T' : String} (k : Kn H x T) (k' : Kn H x T') : T = T' := by
  cases k with
  | non => cases k'; rfl
  | bl b => cases k'; rfl
  | int i => cases k'; rfl
  | str z => cases k'; rfl
  | lst e =>
    cases k' with
    | lst _ => rfl
    | tup e' => rw [e] at e'; cases e'
    | dK e' => rw [e] at e'; cases e'
  | tup e =>
    cases k' with
    | lst e' => rw [e] at e'; cases e'
    | tup _ => rfl
    | dK e' => rw [e] at e'; cases e'
  | dK e =>
    cases k' with
    | lst e' => rw [e] at e'; cases e'
    | tup e' => rw [e] at e'; cases e'
    | dK _ => rfl
end N0

/-! B2: the steps of a reading, one lemma a shape. -/
namespace N0
open PySem PySem.Spec PyProof.Rows L2
/-! the library's readings by names of our own -/
def qAddS : R2 := fun x y H Q => ∃ i j, x = .str i ∧ y = .str j ∧ i.length + j.length ≤ sizeLine ∧ Q (.str (i ++ j)) H
theorem o_addS {X : Cx} : OpR X (binaryOp .Add) qAddS := op_add_str
def qLenS : List V → Hp → VK → Prop := fun xs H Q => ∃ z, xs = [.str z] ∧ z.length ≤ sizeLine ∧ Q (.int z.length) H
theorem c_lenS {X : Cx} : CallR X (.builtin "len") qLenS := call_len_str
def qLenL (K : PySem.W.Frag) : List V → Hp → VK → Prop := fun xs H Q => ∃ p ys, xs = [.ref p] ∧ (SqL K H p ys ∨ SqT K H p ys) ∧ Q (.int ys.length) H
theorem c_lenL {X : Cx} : CallR X (.builtin "len") (qLenL X.K) := call_len_seq
def qInS : R2 := fun x y H Q => ∃ (c : Nat) (z : Str), x = .str ⟨#[c]⟩ ∧ y = .str z ∧ Q (.bl (decide (c ∈ z.cps.toList))) H
theorem o_inS {X : Cx} : OpR X (compareOp .In) qInS := op_in_sign
def qNotInS : R2 := fun x y H Q => ∃ (c : Nat) (z : Str), x = .str ⟨#[c]⟩ ∧ y = .str z ∧ Q (.bl (!decide (c ∈ z.cps.toList))) H
theorem o_notInS {X : Cx} : OpR X (compareOp .NotIn) qNotInS := op_notIn_sign
def qIsN : R2 := fun x y H Q => y = .non ∧ Q (.bl (decide (x = .non))) H
theorem o_isN {X : Cx} : OpR X (compareOp .Is) qIsN := op_isN
def qNotN : R2 := fun x y H Q => y = .non ∧ Q (.bl (!decide (x = .non))) H
theorem o_notN {X : Cx} : OpR X (compareOp .IsNot) qNotN := op_notN
section
variable {σ : L2.St} {H : Hp} {D : Ends} {Q : VK} {QB : Bool → Hp → Prop} {QA : List V → Hp → Prop} {QO : Option Int → Hp → Prop} {ta tb te : TE} {t u c : TT} {t1 t2 : TS} {tr : TA} {r r' : R2} {v x y : V} {i : Nat} {K : PySem.W.Frag}
theorem g_start {N : List Str} {vs : List V} {σ0 : L2.St} (e : L2.start N vs = σ0) (h : t1 D σ0 H) : t1 D (L2.start N vs) H := e ▸ h
theorem g_if {c A B : Prop} [Decidable c] (h1 : c → A) (h2 : ¬ c → B) : if decide c = true then A else B := by
  by_cases h : c
  · rw [decide_eq_true h]; exact h1 h
  · rw [decide_eq_false h]; exact h2 h
theorem g_ifN {c A B : Prop} [Decidable c] (h1 : ¬ c → A) (h2 : c → B) : if (!decide c) = true then A else B := by
  by_cases h : c
  · rw [decide_eq_true h]; exact h2 h
  · rw [decide_eq_false h]; exact h1 h
theorem g_ifB {b : Bool} {A B : Prop} (h1 : b = true → A) (h2 : b = false → B) : if b = true then A else B := by
  cases b with
  | true => exact h1 rfl
  | false => exact h2 rfl
theorem g_ifT {A B : Prop} (h : A) : if true = true then A else B := h
theorem g_ifF {A B : Prop} (h : B) : if false = true then A else B := h
theorem g_ifNT {A B : Prop} (h : B) : if (!true) = true then A else B := h
theorem g_ifNF {A B : Prop} (h : A) : if (!false) = true then A else B := h
theorem at_ofN {α : Type} {xs : List α} {i : Int} {v : α} (h0 : 0 ≤ i) (h : xs[i.toNat]? = some v) : atI xs i = some v := by
  obtain ⟨k, rfl⟩ := Int.eq_ofNat_of_zero_le h0
  exact atI_nat (by simpa using h)
theorem menuI (ns : List Int) {i : Int} (h0 : 0 ≤ i) (h1 : i < ns.length) : ∃ n, n ∈ ns ∧ atI (ns.map V.int) i = some (V.int n) := by
  obtain ⟨k, rfl⟩ := Int.eq_ofNat_of_zero_le h0
  have hk : k < ns.length := by omega
  exact ⟨ns[k], List.getElem_mem hk, atI_nat (by rw [List.getElem?_map, List.getElem?_eq_getElem hk]; rfl)⟩
theorem menuV (xs : List V) {i : Int} (h0 : 0 ≤ i) (h1 : i < xs.length) : ∃ v, v ∈ xs ∧ atI xs i = some v := by
  obtain ⟨k, rfl⟩ := Int.eq_ofNat_of_zero_le h0
  have hk : k < xs.length := by omega
  exact ⟨xs[k], List.getElem_mem hk, atI_nat (List.getElem?_eq_getElem hk)⟩
theorem g_seq {nx bk ct : L2.St → Hp → Prop} {rt : VK} (h : t1 (Ends.mk (t2 (Ends.mk nx rt bk ct)) rt bk ct) σ H) : tSeq t1 t2 (Ends.mk nx rt bk ct) σ H := h
theorem g_cut {nx bk ct : L2.St → Hp → Prop} {rt : VK} (Mid : L2.St → Hp → Prop) (h : t1 (Ends.mk Mid rt bk ct) σ H) (k : ∀ σ' H', Mid σ' H' → t2 (Ends.mk nx rt bk ct) σ' H') : Evl.tCut t1 t2 (Ends.mk nx rt bk ct) σ H := ⟨Mid, h, k⟩
theorem g_set {nx bk ct : L2.St → Hp → Prop} {rt : VK} (h : te σ H (fun x H1 => nx (σ.set i (some x)) H1)) : tAsg te (gName i) (Ends.mk nx rt bk ct) σ H := h
theorem g_ret {nx bk ct : L2.St → Hp → Prop} {rt : VK} (h : te σ H rt) : tRet te (Ends.mk nx rt bk ct) σ H := h
theorem g_retN {nx bk ct : L2.St → Hp → Prop} {rt : VK} (h : rt .non H) : tRetN (Ends.mk nx rt bk ct) σ H := h
theorem g_drop {nx bk ct : L2.St → Hp → Prop} {rt : VK} (h : te σ H fun _ H1 => nx σ H1) : tDrop te (Ends.mk nx rt bk ct) σ H := h
theorem g_ifS (h : c σ H fun b H1 => if b = true then t1 D σ H1 else t2 D σ H1) : tIfS c t1 t2 D σ H := h
theorem g_next {nx bk ct : L2.St → Hp → Prop} {rt : VK} (h : nx σ H) : tNext (Ends.mk nx rt bk ct) σ H := h
theorem g_brk {nx bk ct : L2.St → Hp → Prop} {rt : VK} (h : bk σ H) : tBreak (Ends.mk nx rt bk ct) σ H := h
theorem g_cont {nx bk ct : L2.St → Hp → Prop} {rt : VK} (h : ct σ H) : tCont (Ends.mk nx rt bk ct) σ H := h
theorem g_var (h : σ[i]? = some (some v)) (q : Q v H) : tVar i σ H Q := ⟨v, h, q⟩
theorem g_cA (q : Q (.str (mkS alpha)) H) : tC (.str (Str.ofString "abcdefghijklmnopqrstuvwxyz")) σ H Q := by
  show Q (.str (Str.ofString "abcdefghijklmnopqrstuvwxyz")) H
  rw [alpha_str]; exact q
theorem g_cM {l : List Nat} (q : Q (.str (mkS l)) H) : tC (.str (mkS l)) σ H Q := q
theorem g_cS {z : Str} (q : Q (.str (mkS z.cps.toList)) H) : tC (.str z) σ H Q := by
  rw [← mkS_of z] at q; exact q
theorem g_c (q : Q v H) : tC v σ H Q := q
theorem g_op (h : ta σ H fun x H1 => tb σ H1 fun y H2 => r x y H2 Q) : tOp r ta tb σ H Q := h
theorem g_un {r : V → Hp → VK → Prop} (h : ta σ H fun x H1 => r x H1 Q) : tUn r ta σ H Q := h
theorem g_I0 {g : Int → Int → V} {a b : Int} (q : Q (g a b) H) : rI0 g (.int a) (.int b) H Q := ⟨a, b, rfl, rfl, q⟩
theorem g_I {C : Int → Int → Prop} {g : Int → Int → V} {a b : Int} (hc : C a b) (q : Q (g a b) H) : rI C g (.int a) (.int b) H Q := ⟨a, b, rfl, rfl, hc, q⟩
theorem g_U {g : Int → V} {a : Int} (q : Q (g a) H) : rU g (.int a) H Q := ⟨a, rfl, q⟩
theorem g_eqI {a b : Int} (q : Q (.bl (decide (a = b))) H) : rEq (.int a) (.int b) H Q := ⟨rfl, by
  have e : decide (V.int a = V.int b) = decide (a = b) := by simp
  rw [e]; exact q⟩
theorem g_neI {a b : Int} (q : Q (.bl (!decide (a = b))) H) : rNe (.int a) (.int b) H Q := ⟨rfl, by
  have e : decide (V.int a = V.int b) = decide (a = b) := by simp
  rw [e]; exact q⟩
theorem g_eqB {a b : Bool} (q : Q (.bl (decide (a = b))) H) : rEq (.bl a) (.bl b) H Q := ⟨rfl, by
  have e : decide (V.bl a = V.bl b) = decide (a = b) := by simp
  rw [e]; exact q⟩
theorem g_neB {a b : Bool} (q : Q (.bl (!decide (a = b))) H) : rNe (.bl a) (.bl b) H Q := ⟨rfl, by
  have e : decide (V.bl a = V.bl b) = decide (a = b) := by simp
  rw [e]; exact q⟩
theorem g_eqS {a b : List Nat} (q : Q (.bl (decide (a = b))) H) : rEq (.str (mkS a)) (.str (mkS b)) H Q := ⟨rfl, by rw [mkS_dec]; exact q⟩
theorem g_neS {a b : List Nat} (q : Q (.bl (!decide (a = b))) H) : rNe (.str (mkS a)) (.str (mkS b)) H Q := ⟨rfl, by rw [mkS_dec]; exact q⟩
theorem g_test (h : te σ H fun x H' => ∃ k, x = .bl k ∧ QB k H') : tTest te σ H QB := h
theorem g_B (h : te σ H fun x H' => ∃ k, x = .bl k ∧ QB k H') : tB te σ H QB := h
theorem g_bl {b : Bool} {q : Bool → Prop} (h : q b) : ∃ k, V.bl b = V.bl k ∧ q k := ⟨b, rfl, h⟩
theorem g_and (h : t σ H fun c H1 => if c = true then u σ H1 QB else QB false H1) : tAnd t u σ H QB := h
theorem g_or (h : t σ H fun c H1 => if c = true then QB true H1 else u σ H1 QB) : tOr t u σ H QB := h
theorem g_not (h : t σ H fun c H1 => QB (!c) H1) : tNot t σ H QB := h
theorem g_andV (h : ta σ H fun x H1 => ∃ c, x = .bl c ∧ if c = true then tb σ H1 Q else Q (.bl false) H1) : tAndV ta tb σ H Q := h
theorem g_orV (h : ta σ H fun x H1 => ∃ c, x = .bl c ∧ if c = true then Q (.bl true) H1 else tb σ H1 Q) : tOrV ta tb σ H Q := h
theorem g_notV (h : ta σ H fun x H1 => ∃ c, x = .bl c ∧ Q (.bl (!c)) H1) : tNotV ta σ H Q := h
theorem g_ifE (h : t σ H fun c H1 => if c = true then ta σ H1 Q else tb σ H1 Q) : tIf t ta tb σ H Q := h
theorem g_chain {tc : TE} (h : ta σ H fun x H1 => tb σ H1 fun y H2 => r x y H2 fun z H3 => ∃ k, z = .bl k ∧ (if k = true then tc σ H3 fun w' H4 => r' y w' H4 Q else Q (.bl false) H3)) : tChain r r' ta tb tc σ H Q := h
theorem g_nil (q : QA [] H) : tNil σ H QA := q
theorem g_cons (h : te σ H fun x H1 => tr σ H1 fun xs H2 => QA (x :: xs) H2) : tCons te tr σ H QA := h
theorem g_CB {r : List V → Hp → VK → Prop} (h : tr σ H fun vs H1 => r vs H1 Q) : tCB r tr σ H Q := h
theorem g_call {sp : Sp} {E : XK} (h : tr σ H fun vs H1 => sp vs H1 Q E) : tCall sp [] E tr σ H Q := by
  have e : (fun vs H1 => sp (vs ++ []) H1 Q E) = fun vs H1 => sp vs H1 Q E := by funext vs H1; rw [List.append_nil]
  show tr σ H fun vs H1 => sp (vs ++ []) H1 Q E
  rw [e]; exact h
theorem g_callS {sp : Sp} {E : L2.St → XK} (h : tr σ H fun vs H1 => sp vs H1 Q (E σ)) : tCallS sp E tr σ H Q := h
theorem g_noPart (q : QO none H) : tNoPart σ H QO := q
theorem g_part (h : te σ H fun x H1 => ∃ i, x = .int i ∧ QO (some i) H1) : tPart te σ H QO := h
theorem g_int {a : Int} {q : Int → Prop} (h : q a) : ∃ i, V.int a = .int i ∧ q i := ⟨a, rfl, h⟩
theorem g_Sl {r : V → Option Int → Option Int → Hp → VK → Prop} {tl th : TO} (h : te σ H fun x H1 => tl σ H1 fun l H2 => th σ H2 fun u H3 => r x l u H3 Q) : tSl r te tl th σ H Q := h
theorem g_SlS {l : List Nat} {lo hi : Option Int} (hl : l.length ≤ 100000) (q : Q (.str (cutS (mkS l) lo hi)) H) : rSlS (.str (mkS l)) lo hi H Q := ⟨_, rfl, by rw [mkS_len]; exact small_line hl, q⟩
theorem g_SlTo {l : List Nat} {i : Int} (h0 : 0 ≤ i) (hl : l.length ≤ 100000) (q : Q (.str (mkS (l.take i.toNat))) H) : rSlS (.str (mkS l)) none (some i) H Q := g_SlS hl (by rw [cut_to h0]; exact q)
theorem g_SlFrom {l : List Nat} {i : Int} (h0 : 0 ≤ i) (hl : l.length ≤ 100000) (q : Q (.str (mkS (l.drop i.toNat))) H) : rSlS (.str (mkS l)) (some i) none H Q := g_SlS hl (by rw [cut_from h0]; exact q)
theorem g_tup (h : tr σ H fun xs H1 => xs.length ≤ sizeLine ∧ ∀ p, H1 p = none → Q (.ref p) (upd H1 p (.tup xs))) : tTup tr σ H Q := h
theorem g_lst (h : tr σ H fun xs H1 => xs.length ≤ sizeLine ∧ ∀ p, H1 p = none → Q (.ref p) (upd H1 p (.lst xs))) : tLst tr σ H Q := h
theorem g_new {n : Nat} {A : Prop} (hn : n ≤ 100000) (h : A) : n ≤ sizeLine ∧ A := ⟨small_line hn, h⟩
/-- texts: +, len, an index, a sign within -/
theorem g_addS {a b : List Nat} (hl : a.length + b.length ≤ 100000) (q : Q (.str (mkS (a ++ b))) H) : qAddS (.str (mkS a)) (.str (mkS b)) H Q :=
  ⟨_, _, rfl, rfl, by rw [mkS_len, mkS_len]; exact small_line hl, by rw [mkS_app]; exact q⟩
theorem g_lenS {a : List Nat} (hl : a.length ≤ 100000) (q : Q (.int (a.length : Int)) H) : qLenS [V.str (mkS a)] H Q :=
  ⟨_, rfl, by rw [mkS_len]; exact small_line hl, by rw [mkS_len]; exact q⟩
theorem g_ixS {a : List Nat} {j : Int} {c : Nat} (hl : a.length ≤ 100000) (h : atI a j = some c) (q : Q (.str (mkS [c])) H) : rIxS (.str (mkS a)) (.int j) H Q :=
  ⟨_, _, c, rfl, rfl, by rw [mkS_len]; exact small_line hl, by rw [mkS_cps]; exact h, q⟩
theorem g_inS {a : List Nat} {c : Nat} (q : Q (.bl (decide (c ∈ a))) H) : qInS (.str (mkS [c])) (.str (mkS a)) H Q :=
  ⟨c, _, rfl, rfl, by rw [mkS_cps]; exact q⟩
theorem g_notInS {a : List Nat} {c : Nat} (q : Q (.bl (!decide (c ∈ a))) H) : qNotInS (.str (mkS [c])) (.str (mkS a)) H Q :=
  ⟨c, _, rfl, rfl, by rw [mkS_cps]; exact q⟩
theorem g_isN (q : Q (.bl (decide (x = .non))) H) : qIsN x .non H Q := ⟨rfl, q⟩
theorem g_notN (q : Q (.bl (!decide (x = .non))) H) : qNotN x .non H Q := ⟨rfl, q⟩
theorem g_isKb {T U : String} {b : Bool} (k : Kn H x T) (hU : U ∈ ["int", "bool", "str", "list", "tuple"]) (hb : isK T U = b) (q : Q (.bl b) H) : rIsK [x, .ty U] H Q := ⟨x, T, U, rfl, hU, k, by rw [hb]; exact q⟩
theorem g_lenL {p : Addr} {ys : List V} (h : SqL K H p ys ∨ SqT K H p ys) (q : Q (.int ys.length) H) : qLenL K [.ref p] H Q := ⟨p, ys, rfl, h, q⟩
theorem g_isK {T U : String} (k : Kn H x T) (hU : U ∈ ["int", "bool", "str", "list", "tuple"]) (q : Q (.bl (isK T U)) H) : rIsK [x, .ty U] H Q := ⟨x, T, U, rfl, hU, k, q⟩
theorem g_ixL {p : Addr} {ys : List V} {j : Int} (h : SqL K H p ys) (ha : atI ys j = some v) (q : Q v H) : rIxL K (.ref p) (.int j) H Q := ⟨p, ys, j, v, rfl, rfl, h, ha, q⟩
theorem g_ixT {p : Addr} {ys : List V} {j : Int} (h : SqT K H p ys) (ha : atI ys j = some v) (q : Q v H) : rIxT K (.ref p) (.int j) H Q := ⟨p, ys, j, v, rfl, rfl, h, ha, q⟩
end
end N0

/-! B3: == and != of any thing of a kind with a text. -/
namespace N0
open PySem PySem.Spec PyProof.Rows L2
open AutoSeq1 (wpAny_loadPart')
open MeetsSeq SeqAt
/-- a dict's object -/
def DObj (h : Heap) (l : Addr) : Prop := ∃ (es : Array DictEntry) (n : Nat) (sl : Array (Option Value)), h.get? l = some { cls := .type "dict", dict := none, data := .dict es n, slots := sl }
theorem deq_no (l : Addr) (b : Str) (u : Tok) : Meets (Builtin.«dict.__eq__» ⟨[.ref l, .str b u], []⟩) (fun _ R s => DObj s.heap l ∧ R (.ok (.ret .notImplemented)) s) :=
  .of_wp fun prog w A R s h => by
    obtain ⟨hp, g, d, tk, os⟩ := s
    obtain ⟨⟨es, n, sl, hl⟩, h⟩ := h
    have f1 := PySem.F.sub_str_dict
    wp_walk using wpAny_loadPart' hl
    exact ⟨_, rfl, h⟩
theorem dne_no (l : Addr) (b : Str) (u : Tok) : Meets (Builtin.«dict.__ne__» ⟨[.ref l, .str b u], []⟩) (fun _ R s => DObj s.heap l ∧ R (.ok (.ret .notImplemented)) s) :=
  .of_wp fun prog w A R s h => by
    obtain ⟨hp, g, d, tk, os⟩ := s
    obtain ⟨⟨es, n, sl, hl⟩, h⟩ := h
    have f1 := PySem.F.sub_str_dict
    wp_walk using wpAny_loadPart' hl
    exact ⟨_, rfl, h⟩
theorem seq_no (l : Addr) (b : Str) (u : Tok) : Meets (Builtin.«str.__eq__» ⟨[.str b u, .ref l], []⟩) (fun _ R s => DObj s.heap l ∧ R (.ok (.ret .notImplemented)) s) :=
  .of_wp fun prog w A R s h => by
    obtain ⟨hp, g, d, tk, os⟩ := s
    obtain ⟨⟨es, n, sl, hl⟩, h⟩ := h
    wp_walk using wpAny_loadPart' hl, wpAny_load hl
    exact ⟨_, rfl, h⟩
theorem sne_no (l : Addr) (b : Str) (u : Tok) : Meets (Builtin.«str.__ne__» ⟨[.str b u, .ref l], []⟩) (fun _ R s => DObj s.heap l ∧ R (.ok (.ret .notImplemented)) s) :=
  .of_wp fun prog w A R s h => by
    obtain ⟨hp, g, d, tk, os⟩ := s
    obtain ⟨⟨es, n, sl, hl⟩, h⟩ := h
    wp_walk using wpAny_loadPart' hl, wpAny_load hl
    exact ⟨_, rfl, h⟩
theorem dobj_ty {s : Shared} {l : Addr} (h : DObj s.heap l) : s.TypeIs (.ref l) "dict" := by
  obtain ⟨es, n, sl, e⟩ := h
  exact ⟨_, e, rfl⟩
theorem rc_dict {A : Around} {s : Shared} {l : Addr} (b : Str) (u : Tok) (hd : DObj s.heap l) (hu : A.units < cLine) : RcAt A s (.ref l) (.str b u) false := fun prog w E Q h =>
  rc_eq_decline_or (k := false) (dobj_ty hd) (typeIs_str s b u) (by decide) PySem.F.sub_str_dict PySem.F.slot_dict_eq PySem.F.slot_str_eq_refl
    (fun _ hq => call_meets PySem.F.slot_dict_eq (dobj_ty hd) PySem.F.entry_dict_eq (PySem.F.args_dict_eq_2 _ _) (deq_no l b u) ⟨hd, hq⟩)
    (fun _ hq => call_meets PySem.F.slot_str_eq_refl (typeIs_str s b u) PySem.F.entry_str_eq (PySem.F.args_str_eq_2 _ _) (seq_no l b u) ⟨hd, hq⟩)
    (fun _ hq => wpAny_of_eq (rfl : isSame (.ref l) (.str b u) = pure false) hq) (.inr hu) h
theorem rcn_dict {A : Around} {s : Shared} {l : Addr} (b : Str) (u : Tok) (hd : DObj s.heap l) (hu : A.units < cLine) : RcNeAt A s (.ref l) (.str b u) true := fun prog w E Q h =>
  rc_ne_decline_or (k := false) (dobj_ty hd) (typeIs_str s b u) (by decide) PySem.F.sub_str_dict PySem.F.slot_dict_ne PySem.F.slot_str_ne_refl
    (fun _ hq => call_meets PySem.F.slot_dict_ne (dobj_ty hd) PySem.F.entry_dict_ne (PySem.F.args_dict_ne_2 _ _) (dne_no l b u) ⟨hd, hq⟩)
    (fun _ hq => call_meets PySem.F.slot_str_ne_refl (typeIs_str s b u) PySem.F.entry_str_ne (PySem.F.args_str_ne_2 _ _) (sne_no l b u) ⟨hd, hq⟩)
    (fun _ hq => wpAny_of_eq (rfl : isSame (.ref l) (.str b u) = pure false) hq) (.inr hu) h
theorem dK_obj {X : Cx} {pins : List (Addr × Obj)} {σ : L2.St} {H : Hp} {s : Shared} {a : Addr} {kvs : List (Key × V)} (I : Inv X pins σ H s) (e : H a = some (.dK kvs)) : ∃ o es n, s.heap.get? a = some o ∧ o.ExactDict ∧ o.data = .dict es n := by
  obtain ⟨_, _, vs, _, o, es, ep, h1, h2, h3, _⟩ := I.hok a _ e
  exact ⟨o, es, ep, h1, h2, h3⟩
def qEqK : R2 := fun x y H Q => ∃ T z, Kn H x T ∧ y = .str z ∧ Q (.bl (decide (x = .str z))) H
def qNeK : R2 := fun x y H Q => ∃ T z, Kn H x T ∧ y = .str z ∧ Q (.bl (!decide (x = .str z))) H
section
variable {X : Cx}
theorem o_eqK (hu : X.A.units + 1 < cLine) : OpR X (compareOp .Eq) qEqK := by
  intro pins s σ H x y v u Q I rx ry h
  obtain ⟨T, z, k, rfl, q⟩ := h
  have hu' : X.A.units < cLine := by omega
  have ref : ∀ {a : Addr} (ea : x = .ref a), (∀ t, RcAt X.A s (.ref a) (.str z t) false) → wpAny (model X.prog X.w) X.A (compareOp .Eq v u) (EP X pins σ Q) X.xe s := by
    intro a ea hr
    subst ea
    cases rx
    obtain ⟨t, rfl⟩ := ry
    have e : decide (V.ref a = V.str z) = false := decide_eq_false nofun
    rw [e] at q
    exact hr t X.prog X.w _ _ ⟨.bl _, H, I, rfl, q⟩
  cases k with
  | lst e =>
    obtain ⟨its, rv, p, _⟩ := I.list (SqL.of e)
    exact ref rfl fun t => RcAt.list_str z t p.isList hu'
  | tup e =>
    obtain ⟨its, rv, p, _⟩ := I.tuple (SqT.of e)
    exact ref rfl fun t => RcAt.tuple_str z t p hu'
  | dK e =>
    obtain ⟨o, es, n, h1, h2, h3⟩ := dK_obj I e
    refine ref rfl fun t => rc_dict z t ?_ hu'
    obtain ⟨c1, c2, c3⟩ := h2
    obtain ⟨oc, od, dt, sl⟩ := o
    dsimp only at c1 c2 h3
    subst c1 c2 h3
    exact ⟨_, _, _, h1⟩
  | non => exact op_eq pins s σ H _ _ v u Q I rx ry ⟨rfl, q⟩
  | bl b => exact op_eq pins s σ H _ _ v u Q I rx ry ⟨rfl, q⟩
  | int i => exact op_eq pins s σ H _ _ v u Q I rx ry ⟨rfl, q⟩
  | str w => exact op_eq pins s σ H _ _ v u Q I rx ry ⟨rfl, q⟩
theorem o_neK (hu : X.A.units + 1 < cLine) : OpR X (compareOp .NotEq) qNeK := by
  intro pins s σ H x y v u Q I rx ry h
  obtain ⟨T, z, k, rfl, q⟩ := h
  have hu' : X.A.units < cLine := by omega
  have ref : ∀ {a : Addr} (ea : x = .ref a), (∀ t, RcNeAt X.A s (.ref a) (.str z t) true) → wpAny (model X.prog X.w) X.A (compareOp .NotEq v u) (EP X pins σ Q) X.xe s := by
    intro a ea hr
    subst ea
    cases rx
    obtain ⟨t, rfl⟩ := ry
    have e : decide (V.ref a = V.str z) = false := decide_eq_false nofun
    rw [e] at q
    exact hr t X.prog X.w _ _ ⟨.bl _, H, I, rfl, q⟩
  cases k with
  | lst e =>
    obtain ⟨its, rv, p, _⟩ := I.list (SqL.of e)
    exact ref rfl fun t => RcNeAt.list_str z t p.isList hu'
  | tup e =>
    obtain ⟨its, rv, p, _⟩ := I.tuple (SqT.of e)
    exact ref rfl fun t => RcNeAt.tuple_str z t p hu'
  | dK e =>
    obtain ⟨o, es, n, h1, h2, h3⟩ := dK_obj I e
    refine ref rfl fun t => rcn_dict z t ?_ hu'
    obtain ⟨c1, c2, c3⟩ := h2
    obtain ⟨oc, od, dt, sl⟩ := o
    dsimp only at c1 c2 h3
    subst c1 c2 h3
    exact ⟨_, _, _, h1⟩
  | non => exact op_ne pins s σ H _ _ v u Q I rx ry ⟨rfl, q⟩
  | bl b => exact op_ne pins s σ H _ _ v u Q I rx ry ⟨rfl, q⟩
  | int i => exact op_ne pins s σ H _ _ v u Q I rx ry ⟨rfl, q⟩
  | str w => exact op_ne pins s σ H _ _ v u Q I rx ry ⟨rfl, q⟩
theorem g_eqK {H : Hp} {Q : VK} {x : V} {T : String} {l : List Nat} (k : Kn H x T) (q : Q (.bl (decide (x = .str (mkS l)))) H) : qEqK x (.str (mkS l)) H Q := ⟨T, _, k, rfl, q⟩
theorem g_neK {H : Hp} {Q : VK} {x : V} {T : String} {l : List Nat} (k : Kn H x T) (q : Q (.bl (!decide (x = .str (mkS l)))) H) : qNeK x (.str (mkS l)) H Q := ⟨T, _, k, rfl, q⟩
end
end N0

/-! B4: loops; what the laws' own hands promise. -/
namespace N0
open PySem PySem.Spec PyProof.Rows L2
/-- what a for asks of its walk -/
def kFor (g : TG) (tb : TS) (D : Ends) (σ : L2.St) : It → Hp → Prop := fun J H1 => ∃ W : Nat → Nat → L2.St → Hp → Prop, (∃ m, W 0 m σ H1) ∧ ∀ i m σ H, W i m σ H →
  (J.stop i H ∧ D.nx σ H) ∨ (J.go i H ∧ ∃ N : L2.St → Hp → Prop, (∀ σ' H', N σ' H' → ∃ m', m' < m ∧ W (i + 1) m' σ' H') ∧
    ∀ x H', J.yld i H x H' → g x σ H' fun σ2 H2 => tb { D with nx := N, ct := N, bk := D.nx } σ2 H2)
def qRng1 (R : It → Hp → Prop) : List V → Hp → Prop := fun vs H => ∃ j : Int, vs = [.int j] ∧ -(2 ^ 62) ≤ j ∧ j < 2 ^ 62 ∧ R (Itr 0 j.toNat) H
def qList (K : PySem.W.Frag) (R : It → Hp → Prop) : VK := fun x H1 => ∃ a, x = .ref a ∧ (∃ xs, SqL K H1 a xs) ∧ R (Itl K a) H1
def qTup (K : PySem.W.Frag) (R : It → Hp → Prop) : VK := fun x H1 => ∃ a, x = .ref a ∧ (∃ xs, SqT K H1 a xs) ∧ R (Itt K a) H1
section
variable {σ : L2.St} {H : Hp} {ta : TA} {te : TE} {tb : TS} {g : TG} {wi : TI} {j : Nat} {K : PySem.W.Frag} {D : Ends} {R : It → Hp → Prop} {nx bk ct : L2.St → Hp → Prop} {rt : VK}
theorem g_for (h : wi σ H (kFor g tb D σ)) : tFor wi g tb D σ H := h
theorem g_iR1 (h : ta σ H (qRng1 R)) : iRng1 ta σ H R := h
theorem g_iL (h : te σ H (qList K R)) : iList K te σ H R := h
theorem g_iT (h : te σ H (qTup K R)) : iTup K te σ H R := h
theorem g_rng {n : Int} (h1 : -(2 ^ 61) ≤ n) (h2 : n ≤ 2 ^ 61) (Pv : Nat → L2.St → Hp → Prop) (p0 : Pv 0 σ H)
    (hs : ∀ (i : Nat) σ' H', (i : Int) < n → Pv i σ' H' → tb (Ends.mk (Pv (i + 1)) rt nx (Pv (i + 1))) (σ'.set j (some (.int (i : Int)))) H') (hd : ∀ σ' H', Pv n.toNat σ' H' → nx σ' H') :
    qRng1 (kFor (gName j) tb (Ends.mk nx rt bk ct) σ) [.int n] H := by
  refine ⟨n, rfl, by omega, by omega, for_range (lo := 0) (n := n.toNat) Pv p0 (fun i σ' H' hi p => ?_) hd⟩
  have q := hs i σ' H' (by omega) p
  have e : (0 : Int) + (i : Int) = (i : Int) := Int.zero_add _
  show tb _ (σ'.set j (some (.int (0 + (i : Int))))) H'
  rw [e]; exact q
theorem g_inL {a : Addr} {xs : List V} (hS : SqL K H a xs) (Pv : Nat → L2.St → Hp → Prop) (p0 : Pv 0 σ H) (hl : ∀ i σ' H', i ≤ xs.length → Pv i σ' H' → SqL K H' a xs)
    (hs : ∀ (i : Nat) x σ' H', xs[i]? = some x → Pv i σ' H' → tb (Ends.mk (Pv (i + 1)) rt nx (Pv (i + 1))) (σ'.set j (some x)) H') (hd : ∀ σ' H', Pv xs.length σ' H' → nx σ' H') :
    qList K (kFor (gName j) tb (Ends.mk nx rt bk ct) σ) (.ref a) H :=
  ⟨a, rfl, ⟨xs, hS⟩, for_list (K := K) (a := a) (xs := xs) Pv p0 hl (fun i x σ' H' hx p => hs i x σ' H' hx p) hd⟩
theorem g_inT {a : Addr} {xs : List V} (hS : SqT K H a xs) (Pv : Nat → L2.St → Hp → Prop) (p0 : Pv 0 σ H) (hl : ∀ i σ' H', i ≤ xs.length → Pv i σ' H' → SqT K H' a xs)
    (hs : ∀ (i : Nat) x σ' H', xs[i]? = some x → Pv i σ' H' → tb (Ends.mk (Pv (i + 1)) rt nx (Pv (i + 1))) (σ'.set j (some x)) H') (hd : ∀ σ' H', Pv xs.length σ' H' → nx σ' H') :
    qTup K (kFor (gName j) tb (Ends.mk nx rt bk ct) σ) (.ref a) H :=
  ⟨a, rfl, ⟨xs, hS⟩, for_tup (K := K) (a := a) (xs := xs) Pv p0 hl (fun i x σ' H' hx p => hs i x σ' H' hx p) hd⟩
end
/-! ### the laws' own hands -/
theorem Same.new {H : Hp} {p : Addr} {o : HO} (h : H p = none) : Same H (upd H p o) := fun x u e => by
  rw [upd_ne (ne_of_none e h)]; exact e
theorem Same.tup {K : PySem.W.Frag} {H H' : Hp} {a : Addr} {xs : List V} (e : Same H H') (h : SqT K H a xs) : SqT K H' a xs := by
  rcases h with (h | ⟨o, h⟩) | h
  · exact .inl (.inl (e _ _ h))
  · exact .inl (.inr ⟨o, e _ _ h⟩)
  · exact .inr h
def atF (ns : List Int) (k : Nat) : Int := ns.getD k 0
def spAt (K : PySem.W.Frag) : Sp := fun vs H Q _ => ∃ (a : Addr) (ns : List Int) (k : Nat), vs = [.ref a, .int k] ∧ SqL K H a (ns.map V.int) ∧ Q (.int (atF ns k)) H
def spLetter : Sp := fun vs H Q _ => ∃ (m n : Int), vs = [.int m, .int n] ∧ ∀ c H', Lc c → Same H H' → Q (.str (mkS [c])) H'
def spWord : Sp := fun vs H Q _ => ∃ (m n : Int) (most : Nat), vs = [.int m, .int n, .int most] ∧ most ≤ 1000 ∧ ∀ l H', Wd l → l.length ≤ most → Same H H' → Q (.str (mkS l)) H'
def isIntV : V → Bool
  | .int _ => true
  | _ => false
def spWhole : Sp := fun vs H Q _ => ∃ (x : V) (T : String), vs = [x] ∧ Kn H x T ∧ Q (.bl (isIntV x)) H
theorem whole_is {H : Hp} {x : V} {T : String} (k : Kn H x T) : (isK T "int" && !isK T "bool") = isIntV x := by
  cases k <;> (unfold isIntV; dsimp only; decide +kernel)
/-- a short thing -/
def Sh : V → Prop
  | .str z => z.length ≤ 1000
  | _ => True
/-- a change: its members, if it is a tuple -/
inductive Cg (H : Hp) : V → Option (List V) → Prop where
  | no {x : V} {T : String} (k : Kn H x T) (n : T ≠ "tuple") : Cg H x none
  | tup {p : Addr} {xs : List V} (e : H p = some (.tup xs)) (k : ∀ v ∈ xs, Sh v ∧ ∃ T, Kn H v T) : Cg H (.ref p) (some xs)
theorem Cg.same {H H' : Hp} {x : V} {o : Option (List V)} (c : Cg H x o) (s : Same H H') : Cg H' x o := by
  cases c with
  | no k n => exact .no (k.same s) n
  | tup e k => exact .tup (s _ _ e) fun v hv => let ⟨y, T, z⟩ := k v hv; ⟨y, T, z.same s⟩
/-- the letter that a thing is -/
def letOf : V → Option Nat
  | .str z => match z.cps.toList with
    | [c] => if Lc c then some c else none
    | _ => none
  | _ => none
def putAt (l : List Nat) (i c : Nat) : List Nat := l.take i ++ [c] ++ l.drop i
def cutAt (l : List Nat) (i : Nat) : List Nat := l.take i ++ l.drop (i + 1)
def turnAt (l : List Nat) (i c : Nat) : List Nat := l.take i ++ [c] ++ l.drop (i + 1)
def stepR (l : List Nat) : Option (List V) → Option (List Nat)
  | some [x, .int i] => if x = .str (mkS ("cut" : Str).cps.toList) ∧ 0 ≤ i ∧ i < l.length then some (cutAt l i.toNat) else none
  | some [x, .int i, y] => match letOf y with
    | some c => if x = .str (mkS ("put" : Str).cps.toList) ∧ 0 ≤ i ∧ i ≤ l.length then some (putAt l i.toNat c)
      else if x = .str (mkS ("turn" : Str).cps.toList) ∧ 0 ≤ i ∧ i < l.length ∧ l[i.toNat]? ≠ some c then some (turnAt l i.toNat c) else none
    | none => none
  | _ => none
theorem stepR_more (l : List Nat) (a b c d : V) (r : List V) : stepR l (some (a :: b :: c :: d :: r)) = none := by
  cases b <;> rfl
theorem stepR_two {l : List Nat} {a b : V} (h : isIntV b = false) : stepR l (some [a, b]) = none := by
  cases b <;> first | rfl | cases h
theorem stepR_tri {l : List Nat} {a b c : V} (h : isIntV b = false) : stepR l (some [a, b, c]) = none := by
  cases b <;> first | rfl | cases h
theorem stepR_cut {l : List Nat} {a : V} {i : Int} (h : a = .str (mkS ("cut" : Str).cps.toList) ∧ 0 ≤ i ∧ i < l.length) : stepR l (some [a, .int i]) = some (cutAt l i.toNat) := if_pos h
theorem stepR_cutN {l : List Nat} {a : V} {i : Int} (h : ¬ (a = .str (mkS ("cut" : Str).cps.toList) ∧ 0 ≤ i ∧ i < l.length)) : stepR l (some [a, .int i]) = none := if_neg h
theorem stepR_no {l : List Nat} {a y : V} {i : Int} (h : letOf y = none) : stepR l (some [a, .int i, y]) = none := by
  show (match letOf y with | some c => _ | none => none) = none
  rw [h]
theorem stepR_put {l : List Nat} {a y : V} {i : Int} {c : Nat} (hy : letOf y = some c) (h : a = .str (mkS ("put" : Str).cps.toList) ∧ 0 ≤ i ∧ i ≤ l.length) : stepR l (some [a, .int i, y]) = some (putAt l i.toNat c) := by
  show (match letOf y with | some c => _ | none => none) = _
  rw [hy]; exact if_pos h
theorem stepR_turn {l : List Nat} {a y : V} {i : Int} {c : Nat} (hy : letOf y = some c) (h : ¬ (a = .str (mkS ("put" : Str).cps.toList) ∧ 0 ≤ i ∧ i ≤ l.length)) (h2 : a = .str (mkS ("turn" : Str).cps.toList) ∧ 0 ≤ i ∧ i < l.length ∧ l[i.toNat]? ≠ some c) :
    stepR l (some [a, .int i, y]) = some (turnAt l i.toNat c) := by
  show (match letOf y with | some c => _ | none => none) = _
  rw [hy]; exact (if_neg h).trans (if_pos h2)
theorem stepR_else {l : List Nat} {a y : V} {i : Int} {c : Nat} (hy : letOf y = some c) (h : ¬ (a = .str (mkS ("put" : Str).cps.toList) ∧ 0 ≤ i ∧ i ≤ l.length)) (h2 : ¬ (a = .str (mkS ("turn" : Str).cps.toList) ∧ 0 ≤ i ∧ i < l.length ∧ l[i.toNat]? ≠ some c)) :
    stepR l (some [a, .int i, y]) = none := by
  show (match letOf y with | some c => _ | none => none) = _
  rw [hy]; exact (if_neg h).trans (if_neg h2)
theorem letOf_str {z : List Nat} {c : Nat} (h : letOf (.str (mkS z)) = some c) : z = [c] ∧ Lc c := by
  unfold letOf at h
  simp only [mkS_cps] at h
  split at h
  · split at h
    · injection h with h; subst h; exact ⟨rfl, by assumption⟩
    · cases h
  · cases h
theorem letOf_one {c : Nat} (h : Lc c) : letOf (.str (mkS [c])) = some c := by
  show (match (mkS [c]).cps.toList with | [c] => if Lc c then some c else none | _ => none) = some c
  rw [mkS_cps]; exact if_pos h
theorem letOf_bad {z : List Nat} (h : ∀ c, z = [c] → ¬ Lc c) : letOf (.str (mkS z)) = none := by
  cases e : letOf (.str (mkS z)) with
  | none => rfl
  | some c => obtain ⟨h1, h2⟩ := letOf_str e; exact absurd h2 (h c h1)
theorem letOf_kn {H : Hp} {y : V} {T : String} (k : Kn H y T) (h : T ≠ "str") : letOf y = none := by
  cases k <;> first | rfl | exact absurd rfl h
def optV : Option (List Nat) → V
  | none => .non
  | some l => .str (mkS l)
/-- an own error of the text -/
structure Xc (K : PySem.W.Frag) (mg : Str → Option Value) (x : Str) (C : Addr) : Prop where
  g : mg x = some (.ref C)
  ex : PySem.W.excIn K C He.veBase "ValueError.__new__" = true
  kp : PySem.W.keepIn K (.ref C) = true
  sb : PySem.W.subIn K (.ref C) (.type "BaseException") = some true
  ty : PySem.W.typeIn K (.ref C) = some (.type "type")
def resQ (C : Addr) (Q : VK) (E : XK) (H : Hp) (r : Option (List Nat)) : Prop := (∀ m, r = some m → Q (.str (mkS m)) H) ∧ (r = none → E (.ref C) none H)
def spIsLetter : Sp := fun vs H Q _ => ∃ (x : V) (T : String), vs = [x] ∧ Kn H x T ∧ Sh x ∧ Q (.bl (letOf x).isSome) H
def formB (nm : List Nat) (n : Int) : Option (List V) → Bool
  | none => false
  | some [] => false
  | some (a :: r) => decide ((((a :: r).length : Nat) : Int) = n) && decide (a = .str (mkS nm))
theorem formB_ok {nm : List Nat} {n : Int} {o : Option (List V)} (h : formB nm n o = true) : ∃ r, o = some (.str (mkS nm) :: r) ∧ ((r.length : Int) + 1 = n) := by
  match o, h with
  | some (a :: r), h =>
    obtain ⟨h1, h2⟩ := Bool.and_eq_true_iff.mp (show (decide _ && decide _) = true from h)
    have h1 := of_decide_eq_true h1
    have h2 := of_decide_eq_true h2
    subst h2
    refine ⟨r, rfl, ?_⟩
    rw [List.length_cons] at h1
    omega
theorem formB_no {nm : List Nat} {n : Int} {a : V} {r : List V} (h : formB nm n (some (a :: r)) = false) (hl : (((a :: r).length : Nat) : Int) = n) : ¬ a = .str (mkS nm) := fun z => by
  have h' : (decide _ && decide _) = false := h
  rw [decide_eq_true hl, decide_eq_true z] at h'
  cases h'
theorem stepR_none {l : List Nat} {o : Option (List V)} (h1 : formB ("put" : Str).cps.toList 3 o = false) (h2 : formB ("cut" : Str).cps.toList 2 o = false) (h3 : formB ("turn" : Str).cps.toList 3 o = false) : stepR l o = none := by
  match o with
  | none => rfl
  | some [] => rfl
  | some [a] => rfl
  | some [a, b] =>
    cases hb : isIntV b with
    | false => exact stepR_two hb
    | true =>
      cases b with
      | int i => exact stepR_cutN fun z => formB_no h2 rfl z.1
      | _ => cases hb
  | some [a, b, c] =>
    cases hb : isIntV b with
    | false => exact stepR_tri hb
    | true =>
      cases b with
      | int i =>
        cases e : letOf c with
        | none => exact stepR_no e
        | some d => exact stepR_else e (fun z => formB_no h1 rfl z.1) (fun z => formB_no h3 rfl z.1)
      | _ => cases hb
  | some (a :: b :: c :: d :: r) => exact stepR_more l a b c d r
def spForm : Sp := fun vs H Q _ => ∃ (x : V) (o : Option (List V)) (nm : List Nat) (n : Int), vs = [x, .str (mkS nm), .int n] ∧ 1 ≤ n ∧ Cg H x o ∧ Q (.bl (formB nm n o)) H
def okP (many : Int) : V → Bool
  | .int i => decide (0 ≤ i) && decide (i < many)
  | _ => false
def spPlace (C : Addr) : Sp := fun vs H Q E => ∃ (x : V) (T : String) (many : Int), vs = [x, .int many] ∧ Kn H x T ∧ (okP many x = true → Q .non H) ∧ (okP many x = false → E (.ref C) none H)
def spCLetter (C : Addr) : Sp := fun vs H Q E => ∃ (x : V) (T : String), vs = [x] ∧ Kn H x T ∧ Sh x ∧ ((letOf x).isSome = true → Q .non H) ∧ ((letOf x).isSome = false → E (.ref C) none H)
def putR (l : List Nat) (x y : V) : Option (List Nat) := stepR l (some [.str (mkS ("put" : Str).cps.toList), x, y])
def cutR (l : List Nat) (x : V) : Option (List Nat) := stepR l (some [.str (mkS ("cut" : Str).cps.toList), x])
def turnR (l : List Nat) (x y : V) : Option (List Nat) := stepR l (some [.str (mkS ("turn" : Str).cps.toList), x, y])
def spPut (C : Addr) : Sp := fun vs H Q E => ∃ (l : List Nat) (x y : V) (T U : String), vs = [.str (mkS l), x, y] ∧ l.length ≤ 1000 ∧ Kn H x T ∧ Kn H y U ∧ Sh y ∧ resQ C Q E H (putR l x y)
def spCut (C : Addr) : Sp := fun vs H Q E => ∃ (l : List Nat) (x : V) (T : String), vs = [.str (mkS l), x] ∧ l.length ≤ 1000 ∧ Kn H x T ∧ resQ C Q E H (cutR l x)
def spTurn (C : Addr) : Sp := fun vs H Q E => ∃ (l : List Nat) (x y : V) (T U : String), vs = [.str (mkS l), x, y] ∧ l.length ≤ 1000 ∧ Kn H x T ∧ Kn H y U ∧ Sh y ∧ resQ C Q E H (turnR l x y)
def spDone (C : Addr) : Sp := fun vs H Q E => ∃ (l : List Nat) (x : V) (o : Option (List V)), vs = [.str (mkS l), x] ∧ l.length ≤ 1000 ∧ Cg H x o ∧ resQ C Q E H (stepR l o)
def spStep : Sp := fun vs H Q _ => ∃ (l : List Nat) (x : V) (o : Option (List V)), vs = [.str (mkS l), x] ∧ l.length ≤ 1000 ∧ Cg H x o ∧ Q (optV (stepR l o)) H
end N0

/-! B5: things that a law makes: members, tuples, menus. -/
namespace N0
open PySem PySem.Spec PyProof.Rows L2
/-- a member of a thing -/
def ItG (H : Hp) (v : V) : Prop := Sh v ∧ ∃ T, Kn H v T
theorem ItG.same {H H' : Hp} {v : V} (g : ItG H v) (s : Same H H') : ItG H' v := let ⟨h, T, k⟩ := g; ⟨h, T, k.same s⟩
def Good (H : Hp) (v : V) : Prop := ∃ o, Cg H v o
theorem Good.same {H H' : Hp} {v : V} (g : Good H v) (s : Same H H') : Good H' v := let ⟨o, k⟩ := g; ⟨o, k.same s⟩
def ItE (te : TE) (σ : L2.St) (H : Hp) : Prop := ∀ H1, Same H H1 → ∀ Q : VK, (∀ v H2, Same H1 H2 → ItG H2 v → Q v H2) → te σ H1 Q
def ItA (ta : TA) (σ : L2.St) (H : Hp) (n : Nat) : Prop := ∀ H1, Same H H1 → ∀ Q : List V → Hp → Prop, (∀ vs H2, Same H1 H2 → vs.length = n → (∀ v ∈ vs, ItG H2 v) → Q vs H2) → ta σ H1 Q
def GoE (te : TE) (σ : L2.St) (H : Hp) : Prop := ∀ H1, Same H H1 → ∀ Q : VK, (∀ v H2, Same H1 H2 → Good H2 v → Q v H2) → te σ H1 Q
def GoA (ta : TA) (σ : L2.St) (H : Hp) (n : Nat) : Prop := ∀ H1, Same H H1 → ∀ Q : List V → Hp → Prop, (∀ vs H2, Same H1 H2 → vs.length = n → (∀ v ∈ vs, Good H2 v) → Q vs H2) → ta σ H1 Q
section
variable {σ : L2.St} {H : Hp} {te : TE} {ta : TA} {v : V} {i n : Nat}
theorem itG_int (k : Int) : ItG H (.int k) := ⟨trivial, _, .int k⟩
theorem itG_bl (k : Bool) : ItG H (.bl k) := ⟨trivial, _, .bl k⟩
theorem itG_non : ItG H .non := ⟨trivial, _, .non⟩
theorem itG_str {l : List Nat} (h : l.length ≤ 1000) : ItG H (.str (mkS l)) := ⟨by show (mkS l).length ≤ 1000; rw [mkS_len]; exact h, _, .str _⟩
theorem itE_var (h : σ[i]? = some (some v)) (g : ItG H v) : ItE (tVar i) σ H := fun H1 s Q q => ⟨v, h, q v H1 (Same.refl _) (g.same s)⟩
theorem itE_c (g : ∀ H, ItG H v) : ItE (tC v) σ H := fun H1 s Q q => q v H1 (Same.refl _) (g H1)
theorem itE_neg {k : Int} : ItE (tUn (rU fun i => .int (-i)) (tC (.int k))) σ H := fun H1 s Q q => ⟨k, rfl, q _ H1 (Same.refl _) (itG_int _)⟩
theorem itE_lst (h : ItA ta σ H n) (hn : n ≤ 1000) : ItE (tLst ta) σ H := fun H1 s Q q => h H1 s _ fun vs H2 s2 hl g => ⟨by rw [hl]; exact small_line (by omega), fun p hp => q _ _ (s2.trans (Same.new hp)) ⟨trivial, _, .lst upd_same⟩⟩
theorem itE_tup (h : ItA ta σ H n) (hn : n ≤ 1000) : ItE (tTup ta) σ H := fun H1 s Q q => h H1 s _ fun vs H2 s2 hl g => ⟨by rw [hl]; exact small_line (by omega), fun p hp => q _ _ (s2.trans (Same.new hp)) ⟨trivial, _, .tup upd_same⟩⟩
theorem itE_dK : ItE tDNewK σ H := fun H1 s Q q p hp => q _ _ (Same.new hp) ⟨trivial, _, .dK upd_same⟩
theorem itA_nil : ItA tNil σ H 0 := fun H1 s Q q => q [] H1 (Same.refl _) rfl fun _ h => nomatch h
theorem itA_cons (h : ItE te σ H) (hr : ItA ta σ H n) : ItA (tCons te ta) σ H (n + 1) := fun H1 s Q q => h H1 s _ fun v H2 s2 g => hr H2 (s.trans s2) _ fun vs H3 s3 hl gs =>
  q (v :: vs) H3 (s2.trans s3) (by rw [List.length_cons, hl]) fun u hu => by
    rcases List.mem_cons.mp hu with rfl | hu
    · exact g.same s3
    · exact gs u hu
theorem goE_tup (h : ItA ta σ H n) (hn : n ≤ 1000) : GoE (tTup ta) σ H := fun H1 s Q q => h H1 s _ fun vs H2 s2 hl g => ⟨by rw [hl]; exact small_line (by omega), fun p hp =>
  q _ _ (s2.trans (Same.new hp)) ⟨_, .tup upd_same fun v hv => (g v hv).same (Same.new hp)⟩⟩
theorem goE_lst (h : ItA ta σ H n) (hn : n ≤ 1000) : GoE (tLst ta) σ H := fun H1 s Q q => h H1 s _ fun vs H2 s2 hl g => ⟨by rw [hl]; exact small_line (by omega), fun p hp =>
  q _ _ (s2.trans (Same.new hp)) ⟨_, .no (.lst upd_same) (by decide)⟩⟩
theorem goE_c {T : String} (g : ∀ H, Kn H v T) (hT : T ≠ "tuple") : GoE (tC v) σ H := fun H1 s Q q => q v H1 (Same.refl _) ⟨_, .no (g H1) hT⟩
theorem goE_non : GoE (tC .non) σ H := goE_c (fun _ => .non) (by decide)
theorem goE_int {k : Int} : GoE (tC (.int k)) σ H := goE_c (fun _ => .int k) (by decide)
theorem goE_str {z : Str} : GoE (tC (.str z)) σ H := goE_c (fun _ => .str z) (by decide)
theorem itE_int {k : Int} : ItE (tC (.int k)) σ H := itE_c fun _ => itG_int k
theorem itE_bl {k : Bool} : ItE (tC (.bl k)) σ H := itE_c fun _ => itG_bl k
theorem itE_non : ItE (tC .non) σ H := itE_c fun _ => itG_non
theorem itE_str {z : Str} (h : z.length ≤ 1000) : ItE (tC (.str z)) σ H := itE_c fun _ => ⟨h, _, .str z⟩
theorem goA_nil : GoA tNil σ H 0 := fun H1 s Q q => q [] H1 (Same.refl _) rfl fun _ h => nomatch h
theorem goA_cons (h : GoE te σ H) (hr : GoA ta σ H n) : GoA (tCons te ta) σ H (n + 1) := fun H1 s Q q => h H1 s _ fun v H2 s2 g => hr H2 (s.trans s2) _ fun vs H3 s3 hl gs =>
  q (v :: vs) H3 (s2.trans s3) (by rw [List.length_cons, hl]) fun u hu => by
    rcases List.mem_cons.mp hu with rfl | hu
    · exact g.same s3
    · exact gs u hu
/-- a menu, then what follows -/
theorem goL (h : GoA ta σ H n) (hn : n ≤ 1000) {Q : VK} (q : ∀ p vs H2, Same H H2 → H p = none → H2 p = some (.lst vs) → vs.length = n → (∀ v ∈ vs, Good H2 v) → Q (.ref p) H2) : tLst ta σ H Q :=
  h H (Same.refl _) _ fun vs H2 s2 hl g => ⟨by rw [hl]; exact small_line (by omega), fun p hp => q p vs _ (s2.trans (Same.new hp)) (s2.free hp) upd_same hl fun v hv => (g v hv).same (Same.new hp)⟩
theorem itL (h : ItA ta σ H n) (hn : n ≤ 1000) {Q : VK} (q : ∀ p vs H2, Same H H2 → H p = none → H2 p = some (.lst vs) → vs.length = n → (∀ v ∈ vs, ItG H2 v) → Q (.ref p) H2) : tLst ta σ H Q :=
  h H (Same.refl _) _ fun vs H2 s2 hl g => ⟨by rw [hl]; exact small_line (by omega), fun p hp => q p vs _ (s2.trans (Same.new hp)) (s2.free hp) upd_same hl fun v hv => (g v hv).same (Same.new hp)⟩
theorem g_cat {a b : Addr} {xs zs : List V} {Q : VK} (h1 : H a = some (.lst xs)) (h2 : H b = some (.lst zs)) (hl : xs.length + zs.length ≤ 100000) (q : ∀ p, H p = none → Q (.ref p) (upd H p (.lst (xs ++ zs)))) : rCat (.ref a) (.ref b) H Q :=
  ⟨a, b, xs, zs, rfl, rfl, h1, h2, small_line hl, q⟩
end
def spSign : Sp := fun vs H Q _ => ∃ n : Int, vs = [.int n] ∧ ∀ c, Q (.str (mkS [c])) H
def spChange : Sp := fun vs H Q _ => ∃ (m n : Int) (l : List Nat), vs = [.int m, .str (mkS l), .int n] ∧ l.length ≤ 1000 ∧ ∀ x o H', Same H H' → Cg H' x o → Q x H'
end N0

/-! B6: a def that is handed the error that a suite holds. -/
namespace N0
open PySem PySem.Spec PyProof.Rows L2 L2H

/-- the def called x, handed an error (its object is as Z says) while that one is held: its promise, by the error's address -/
structure Dz (P : Program) (w : World) (K : PySem.W.Frag) (mg : Str → Option Value) (base : Heap) (k : Nat) (x : Str) (ps : List Str) (Z : Obj → Prop) (sp : Addr → Sp) : Prop where
  ex : ∃ (f : Addr) (fd : FuncData), mg x = some (.ref f) ∧ PySem.W.keepIn K (.ref f) = true ∧ Binds K fd ps [] ∧ (∀ a vs H Q E, sp a vs H Q E → vs.length = ps.length) ∧
    ∀ (A : Around) (outer : List Env) (s : Shared) (H : Hp) (args : Args) (us : List Value) (vs : List V) (Q : VK) (p : Addr × Obj), RoomH k A → Z p.2 → PinOk outer H s p →
      Env0 P w K mg base A outer s H → BindsTo s fd args (ps.zip us) → Vals vs us → sp p.1 vs H Q E0 → codeAny (model P w) A (.call (.ref f) args) (CR CX0 outer P w H s Q E0) s
section
variable {P : Program} {w : World} {K : PySem.W.Frag} {mg : Str → Option Value} {base : Heap} {x : Str} {st : Stmt} {N ps : List Str} {k : Nat} {Z : Obj → Prop} {sp : Addr → Sp}
theorem At.okZ (A : At K mg x st) (S : FnScope N ps (defScope st)) (hb : BindN x st ps) (len : ∀ a vs H Q E, sp a vs H Q E → vs.length = ps.length)
    (hbody : ∀ (f : Addr) (cdv : Value) (A : Around) (outer : List Env) (s : Shared) (H : Hp) (vs : List V) (Q : VK) (p : Addr × Obj), Z p.2 → RoomH k (A.deeper (envOfC x (defScope st) s.heap.objs.size f cdv)) → sp p.1 vs H Q E0 →
      ∃ t, PSs (cxH CX0 P w K mg base N x (defScope st) f cdv A outer s H E0 p) (defBody st) t ∧ t { nx := fun _ H' => Q .non H', rt := Q } (start N vs) H) : Dz P w K mg base (k + 1) x ps Z sp := by
  obtain ⟨f, fd, hm, F⟩ := A.ex
  refine ⟨f, fd, hm, F.kp, F.bindsN hb, len, ?_⟩
  obtain ⟨oc, od, dV, kV, doc, pm, an, cdv, ct, osl, rfl, lk, hcd, _, _⟩ := F.ex
  intro A outer s H args us vs Q p hr hz hpin e0 hbt r hsp
  have hl := len _ _ _ _ _ hsp
  have kIn : K.In s.heap := e0.mod.kin.keeps fun b o e => (e0.bs b o e).1
  have kLim : s.heap.NoLimit := e0.mod.nolimit.keeps fun b o e => (e0.bs b o e).1
  have kinds : ∀ y ∈ ps.zip us, (defScope st).names.lookup y.1 = some .local ∨ ((defScope st).names.lookup y.1 = some .cell ∧ ((cellsFrom (s.heap.objs.size + 1) (defScope st).names []).lookup y.1).isSome = true) := by
    rintro ⟨n, v⟩ hy
    rcases S.par n (List.of_mem_zip hy).1 with q | q
    · exact .inl q
    · exact .inr ⟨q, PySem.W.cellsFrom_some _ _ _ (.inl q)⟩
  refine codeAny_call_function hr.depth (kIn _ _ lk) rfl S.co S.gen rfl (PySem.W.codeRec_of kIn hcd) (hbt _ _ _ _ (wpAny_newFunctionEnv_cells S.kind kinds fun env he s1 xc => ?_))
  subst he
  refine ⟨kLim.keeps xc.toInCall.keep, codeAny_func ?_⟩
  obtain ⟨t, ht, hq⟩ := hbody f cdv A outer s H vs Q p hz (hr.deeper _) hsp
  have I := inv_startH (CX := CX0) (E := E0) S hpin e0 hl r xc
  refine wpAny_mono (ht.run [] s1 _ H _ I hq) (fun fl s' hs => ?_) (fun e s' hs => hs)
  cases fl with
  | next =>
    obtain ⟨σ', H', J, q⟩ := hs
    exact ⟨.non, H', J.os, J.bare, J.base, J.hok, rfl, q⟩
  | ret u =>
    obtain ⟨v, σ', H', J, rv, q⟩ := hs
    exact ⟨v, H', J.os, J.bare, J.base, J.hok, rv, q⟩
  | brk =>
    obtain ⟨_, _, _, z⟩ := hs
    exact False.elim z
  | cont =>
    obtain ⟨_, _, _, z⟩ := hs
    exact False.elim z
end
section
variable {X : Cx} {k : Nat} {ps : List Str} {Z : Obj → Prop} {sp : Addr → Sp} {x : Str} {a : Addr} {oe : Obj} {q pos : Pos} {e : Expr} {es : List Expr} {t : TA}
def tCallZ (sp : Addr → Sp) (a : Addr) (t : TA) : TE := fun σ H Q => t σ H fun vs H1 => sp a vs H1 Q E0
theorem pe_callZ (D : Dz X.prog X.w X.K X.mg X.base k x ps Z sp) (hr : RoomH k X.A) (hz : Z oe) (hp : (a, oe) ∈ X.pn) (hg : Gl X x) (ha : PA X (e :: es) t)
    (hdb : (x == ("__debug__" : Str)) = false := by decide) (he : starEach (e :: es) X.env = (false, eval e X.env) :: starEach es X.env := by rfl) (hpl : (backTo pos (starEach es X.env)).any (·.1) = false := by rfl) :
    PE X (.Call (.Name x q) (e :: es) [] pos) (tCallZ sp a t) := by
  obtain ⟨f, fd, hm, hk, hb, len, F⟩ := D.ex
  refine ⟨fun pins s σ H Q I h => wpAny_Call_Name_kw (ld_glob I hg hm ?_ hdb)⟩
  refine PySem.W.callWith_K (h₀ := X.base) I.ok.mod.kin hk (thn (ha.run pos pins s σ H _ I h) fun us s1 ⟨vs, H1, I1, r, q⟩ => ⟨I1.kIn, ?_⟩) he hpl
  have hu : us.length = ps.length := by rw [← r.length]; exact len _ _ _ _ _ q
  have b := hb s1 us I1.kIn (by rw [List.append_nil]; exact hu)
  rw [List.append_nil] at b
  obtain ⟨p1, p2, p3, p4, p5⟩ := I1.pin (a, oe) (List.mem_append_left _ hp)
  have pin : PinOk X.stack H1 s1 (a, oe) := ⟨p1, p2, fun z => (List.mem_cons.mp (I1.stkSub a z)).elim p3 p4, p5⟩
  refine wpAny_call (codeAny_mono (F X.A X.stack s1 H1 ⟨us, []⟩ us vs Q (a, oe) hr hz pin I1.env0 b r q) fun r s' hq => ?_)
  cases r with
  | error e => exact False.elim hq
  | ok fl =>
    cases fl with
    | ret u => exact I1.after hq
    | next => exact False.elim hq
    | brk => exact False.elim hq
    | cont => exact False.elim hq
end
theorem g_callZ {sp : Addr → Sp} {a : Addr} {t : TA} {σ : L2.St} {H : Hp} {Q : VK} (h : t σ H fun vs H1 => sp a vs H1 Q E0) : tCallZ sp a t σ H Q := h
theorem roomH_mark {j k : Nat} {A : Around} {v : Option Value} (r : Room k A) (h : j ≤ k) : RoomH j (A.mark v) :=
  ⟨by have := r.dp; show A.depth + 3 * j + 5 < _; omega, by have := r.un; show A.units + 16 * j + 200 < _; omega⟩
/-- isinstance of an error that is pinned -/
theorem call_isP {X : Cx} {a D : Addr} {oe : Obj} (C : ExcC X.K D) (hz : Zc (.ref D) none oe) (hf : ∃ vs, oe.data = .fields vs) (hp : (a, oe) ∈ X.pn) : CallR X (.builtin "isinstance") (rIsE X.K D a) := by
  intro pins s σ H xs us Q I r h
  obtain ⟨c, cv, b, rfl, hcv, e, q⟩ := h
  obtain ⟨u1, u2, rfl, r1, r2⟩ := vals2 r
  cases r1
  cases hcv _ r2
  have at_ := (I.pin (a, oe) (List.mem_append_left _ hp)).1
  obtain ⟨vs, hv⟩ := hf
  obtain ⟨oc, od, dt, sl⟩ := oe
  obtain ⟨h1, h2⟩ := hz
  dsimp only at h1 h2 hv
  subst h1 h2 hv
  exact PySem.W.kia_one (PySem.W.handS_kitx_exc C.hg C.hk C.hs C.hd C.ha C.hn C.ht C.hm) I.kIn ⟨at_, rfl, rfl, trivial⟩ e (fun z => nomatch z) fun tk => ⟨.bl b, H, I.tok tk, rfl, q⟩
/-- a part that stands under a condition on what is held -/
def tG (p : Prop) (t : TS) : TS := fun D σ H => p ∧ t D σ H
theorem pss_G {X : Cx} {p : Prop} {b : List Stmt} {t : TS} (h : p → PSs X b t) : PSs X b (tG p t) := ⟨fun pins s σ H D I hw => (h hw.1).run pins s σ H D I hw.2⟩
/-- what is known of the classes: D an error's own, and which of five it is -/
structure Kd (K : PySem.W.Frag) (mg : Str → Option Value) (D CW CC CM CF : Addr) (b : List Bool) : Prop where
  xc : ExcC K D
  gW : mg "BadWord" = some (.ref CW)
  gC : mg "BadChange" = some (.ref CC)
  gM : mg "BadMost" = some (.ref CM)
  gF : mg "Full" = some (.ref CF)
  kV : PySem.W.kitOne K (.ref D) (.type "ValueError") = some true
  kk : ∃ b1 b2 b3 b4, b = [b1, b2, b3, b4] ∧ PySem.W.kitOne K (.ref D) (.ref CW) = some b1 ∧ PySem.W.kitOne K (.ref D) (.ref CC) = some b2 ∧ PySem.W.kitOne K (.ref D) (.ref CM) = some b3 ∧ PySem.W.kitOne K (.ref D) (.ref CF) = some b4
/-- an error's object -/
def Eo (D : Addr) (o : Obj) : Prop := Zc (.ref D) none o ∧ ∃ vs, o.data = .fields vs
theorem g_isE {K : PySem.W.Frag} {D a C : Addr} {b : Bool} {H : Hp} {Q : VK} (e : PySem.W.kitOne K (.ref D) (.ref C) = some b) (q : Q (.bl b) H) : rIsE K D a [.ref a, .ref C] H Q := ⟨.ref C, .ref C, b, rfl, fun _ r => r, e, q⟩
theorem g_isET {K : PySem.W.Frag} {D a : Addr} {T : String} {b : Bool} {H : Hp} {Q : VK} (e : PySem.W.kitOne K (.ref D) (.type T) = some b) (q : Q (.bl b) H) : rIsE K D a [.ref a, .ty T] H Q := ⟨.ty T, .type T, b, rfl, fun _ r => r, e, q⟩
/-- what the laws ask of an error: which of four kinds it is -/
def spKinds (b : List Bool) : Addr → Sp := fun a vs H Q _ => vs = [.ref a] ∧ ∀ p H', Same H H' → H p = none → H' p = some (.lst (b.map V.bl)) → Q (.ref p) H'
/-- done, asked by the law: the text behind, or None -/
def spLD : Sp := fun vs H Q _ => ∃ (l : List Nat) (x : V) (o : Option (List V)), vs = [.str (mkS l), x] ∧ l.length ≤ 1000 ∧ Cg H x o ∧ ∀ H', Same H H' → Q (optV (stepR l o)) H'
/-- the law: True comes out -/
def spLaw (K : PySem.W.Frag) : Sp := fun vs H Q _ => ∃ (a : Addr) (ns : List Int), vs = [.ref a] ∧ SqL K H a (ns.map V.int) ∧ ns.length ≤ 63 ∧ ∀ H', Q (.bl true) H'
theorem cutV_from (xs : List V) (k : Nat) : cutV xs (some (k : Int)) none = xs.drop k := by
  unfold cutV
  rw [HT.sIx_nat, HT.sIx_none]
  rcases Nat.le_total k xs.length with h | h
  · rw [Nat.min_eq_left h]
    exact List.take_of_length_le (by rw [List.length_drop]; omega)
  · rw [Nat.min_eq_right h, List.drop_of_length_le (Nat.le_refl _), List.drop_of_length_le h]
    simp
theorem ints_get {ns : List Int} {i : Nat} {x : V} (h : (ns.map V.int)[i]? = some x) : ∃ n, x = .int n ∧ ns[i]? = some n := by
  rw [List.getElem?_map] at h
  cases e : ns[i]? with
  | none => rw [e] at h; cases h
  | some n => rw [e] at h; exact ⟨n, (Option.some.inj h).symm, rfl⟩
end N0

/-! B7: the head's facts, with one more test of our own. -/
namespace N0
open PySem PySem.Spec PyProof.Rows L2
def obsM (fa : List He.Fa) (fn : List He.DefD) (ex : PySem.W.Frag → Bool) (K : PySem.W.Frag) : He.AlD := ((He.obsD fa fn K).1 && ex K, (He.obsD fa fn K).2)
def obsMG (n : Nat) (fa : List He.Fa) (fn : List He.DefD) (ex : PySem.W.Frag → Bool) (g : Addr → Option Obj) : He.AlD := obsM fa fn ex (He.frG g (He.asD g n))
def hookM (n : Nat) (fa : List He.Fa) (fn : List He.DefD) (ex : PySem.W.Frag → Bool) : PySem.W.Hook where
  α := He.AlD
  obs := fun s => obsMG n fa fn ex s.heap.get?
  val := fun _ => He.valD fn
  says := fun _ h => ∃ K : PySem.W.Frag, K.In h ∧ He.SaysD fa fn K ∧ ex K = true
  of := fun w s e => by
    refine ⟨He.frG s.heap.get? (He.asD s.heap.get? n), He.frG_in, ?_⟩
    obtain ⟨h1, h2⟩ := Prod.mk.inj (show ((He.obsD fa fn _).1 && ex _, (He.obsD fa fn _).2) = (true, fn.map He.DefD.val) from e)
    obtain ⟨h3, h4⟩ := Bool.and_eq_true_iff.mp h1
    exact ⟨Prod.ext h3 h2, h4⟩
  keeps := fun _ _ _ ⟨K, kin, c⟩ k => ⟨K, kin.keeps k, c⟩
theorem obsMG_eq {n : Nat} {fa : List He.Fa} {fn : List He.DefD} {ex : PySem.W.Frag → Bool} {g : Addr → Option Obj} {s : Shared} (h : ∀ a, g a = s.heap.get? a) : obsMG n fa fn ex g = (hookM n fa fn ex).obs s := by
  rw [show g = s.heap.get? from funext h]; rfl
/-- a def of the text, where it stands -/
abbrev dOf (x : Str) (st : Stmt) : He.DefD := ⟨(x, none), x, x, defArgs st, defBody st, defScope st, [], []⟩
theorem at_of_says {fa : List He.Fa} {fn : List He.DefD} {K : PySem.W.Frag} {h : Heap} {mg : Str → Option Value} (X : K.In h) (G : h.Ns mainGlobals mg) (c : He.SaysD fa fn K) (i j : Nat) {x : Str} {st : Stmt}
    (hi : fn[i]? = some (dOf x st)) (hj : fa[j]? = some (.glo x)) : At K mg x st := by
  obtain ⟨fd, F⟩ := c.def_ i hi
  exact ⟨_, fd, He.glo_ok X G (c.fact j hj), F⟩
theorem eqD {α : Type} [DecidableEq α] {a b : α} (h : decide (a = b) = true) : a = b := of_decide_eq_true h
/-- what isinstance leans on, of an error's class -/
def excCB (K : PySem.W.Frag) (D : Addr) : Bool :=
  decide (PySem.W.findIn K (.ref D) "__getattribute__" = some (some (.builtin "BaseException.__getattribute__"))) && (decide (PySem.W.findIn K (.ref D) "__getattr__" = some none) &&
  (decide (PySem.W.subIn K (.ref D) (.type "BaseException") = some true) && (PySem.W.hasDictIn K D && (decide (PySem.W.findIn K (.ref D) "__class__" = some (some (.builtin "object.__class__"))) &&
  (decide (PySem.W.specialIn K (.builtin "object.__class__") "__get__" = some (some (.builtin "getset_descriptor.__get__"))) && (decide (PySem.W.takesIn K (.builtin "object.__class__") = some true) &&
  decide (PySem.W.mroIn K D (.type "object") = some true)))))))
theorem excCB_ok {K : PySem.W.Frag} {D : Addr} (h : excCB K D = true) : ExcC K D := by
  unfold excCB at h
  simp only [Bool.and_eq_true, decide_eq_true_eq] at h
  obtain ⟨h1, h2, h3, h4, h5, h6, h7, h8⟩ := h
  exact ⟨h1, h2, h3, h4, h5, h6, h7, h8⟩
theorem xc_of {fa : List He.Fa} {fn : List He.DefD} {K : PySem.W.Frag} {h : Heap} {mg : Str → Option Value} (X : K.In h) (G : h.Ns mainGlobals mg) (c : He.SaysD fa fn K) (i j : Nat) {x : Str} (hi : fa[i]? = some (.exc x)) (hj : fa[j]? = some (.glo x)) :
    Xc K mg x (He.ga K x) := by
  obtain ⟨h1, h2, h3, h4⟩ := He.exc_ok (c.fact i hi)
  exact ⟨He.glo_ok X G (c.fact j hj), h1, h2, h3, h4⟩
end N0

/-! B8: changes in a row; lists that are the same. -/
namespace N0
open PySem PySem.Spec PyProof.Rows L2
/-- data that == tells -/
def Dat (K : PySem.W.Frag) (H : Hp) (v : V) (k : Nat) : Prop := ∃ d, Dp K H v d ∧ d.canLay0 = true ∧ d.depth ≤ k
theorem dat_all {K : PySem.W.Frag} {H : Hp} {k : Nat} : ∀ {xs : List V}, (∀ v ∈ xs, Dat K H v k) → ∃ ds, DpAll K H xs ds ∧ PyData.canLayAll0 ds = true ∧ PyData.depthAll ds ≤ k
  | [], _ => ⟨[], .nil, rfl, by show PyData.depthAll [] ≤ k; simp [PyData.depthAll]⟩
  | x :: xs, h => by
    obtain ⟨d, h1, h2, h3⟩ := h x (List.mem_cons_self ..)
    obtain ⟨ds, g1, g2, g3⟩ := dat_all fun v hv => h v (List.mem_cons_of_mem _ hv)
    refine ⟨d :: ds, .cons h1 g1, ?_, ?_⟩
    · show (d.canLay0 && PyData.canLayAll0 ds) = true
      rw [h2, g2]; rfl
    · simp only [PyData.depthAll]; omega
theorem eqD_same {K : PySem.W.Frag} {H : Hp} {Q : VK} {p q : Addr} {xs : List V} (hp : SqL K H p xs) (hq : SqL K H q xs) (h : ∀ v ∈ xs, Dat K H v 20) (r : Q (.bl true) H) : rEqD K (.ref p) (.ref q) H Q := by
  obtain ⟨ds, h1, h2, h3⟩ := dat_all h
  have c : PyData.canLay0 (.list ds) = true := h2
  have sh : SeqAt.shaped (.list ds) = true := by
    unfold SeqAt.shaped
    rw [c, Bool.true_and, decide_eq_true_iff]
    simp only [PyData.depth]; omega
  refine ⟨.list ds, .list ds, .lst hp h1, .lst hq h1, sh, sh, ?_⟩
  rw [SeqAt.eqv_refl _ c]; exact r
theorem dat_int {K : PySem.W.Frag} {H : Hp} {i : Int} {k : Nat} : Dat K H (.int i) k := ⟨.int i, .int i, by simp [PyData.canLay0], by simp [PyData.depth]⟩
theorem dat_non {K : PySem.W.Frag} {H : Hp} {k : Nat} : Dat K H .non k := ⟨.none, .non, by simp [PyData.canLay0], by simp [PyData.depth]⟩
theorem dat_str {K : PySem.W.Frag} {H : Hp} {z : Str} {k : Nat} (h : PyData.strOk z = true) : Dat K H (.str z) k := ⟨.str z, .str z, by simp [PyData.canLay0, h], by simp [PyData.depth]⟩
theorem dat_tup {K : PySem.W.Frag} {H : Hp} {p : Addr} {xs : List V} {k : Nat} (hp : SqT K H p xs) (h : ∀ v ∈ xs, Dat K H v k) : Dat K H (.ref p) (k + 1) := by
  obtain ⟨ds, h1, h2, h3⟩ := dat_all h
  exact ⟨.tuple ds, .tup hp h1, h2, by simp only [PyData.depth]; omega⟩
theorem dat_lst {K : PySem.W.Frag} {H : Hp} {p : Addr} {xs : List V} {k : Nat} (hp : SqL K H p xs) (h : ∀ v ∈ xs, Dat K H v k) : Dat K H (.ref p) (k + 1) := by
  obtain ⟨ds, h1, h2, h3⟩ := dat_all h
  exact ⟨.list ds, .lst hp h1, h2, by simp only [PyData.depth]; omega⟩
theorem strOk_small {l : List Nat} (h : ∀ c ∈ l, c < 0x110000) : PyData.strOk (mkS l) = true := by
  unfold PyData.strOk
  rw [Array.all_eq_true]
  intro i hi
  refine decide_eq_true (h _ ?_)
  have : (mkS l).cps[i] = l[i]'(by simpa [mkS] using hi) := by simp [mkS]
  rw [this]
  exact List.getElem_mem _
theorem strOk_wd {l : List Nat} (h : Wd l) : PyData.strOk (mkS l) = true := strOk_small fun c hc => by have := (h c hc).2; omega
mutual
theorem Dp.same {K : PySem.W.Frag} {H H' : Hp} (s : Same H H') : ∀ {v : V} {d : PyData}, Dp K H v d → Dp K H' v d
  | _, _, .non => .non
  | _, _, .bl b => .bl b
  | _, _, .int i => .int i
  | _, _, .str x => .str x
  | _, _, .lst h a => .lst (s.seq h) (DpAll.same s a)
  | _, _, .tup h a => .tup (Same.tup s h) (DpAll.same s a)
theorem DpAll.same {K : PySem.W.Frag} {H H' : Hp} (s : Same H H') : ∀ {vs : List V} {ds : List PyData}, DpAll K H vs ds → DpAll K H' vs ds
  | _, _, .nil => .nil
  | _, _, .cons a b => .cons (Dp.same s a) (DpAll.same s b)
end
theorem Dat.same {K : PySem.W.Frag} {H H' : Hp} {v : V} {k : Nat} (g : Dat K H v k) (s : Same H H') : Dat K H' v k := let ⟨d, h1, h2⟩ := g; ⟨d, Dp.same s h1, h2⟩
/-! ### changes in a row -/
def ledR : List Nat → List (Option (List V)) → Option (List Nat)
  | l, [] => some l
  | l, o :: r => match stepR l o with
    | some m => ledR m r
    | none => none
theorem ledR_app (l : List Nat) (a b : List (Option (List V))) : ledR l (a ++ b) = (ledR l a).bind fun m => ledR m b := by
  induction a generalizing l with
  | nil => rfl
  | cons o r ih =>
    show (match stepR l o with | some m => ledR m (r ++ b) | none => none) = _
    show _ = (match stepR l o with | some m => ledR m r | none => none).bind _
    cases stepR l o with
    | none => rfl
    | some m => exact ih m
theorem ledR_one (l : List Nat) (o : Option (List V)) : ledR l [o] = stepR l o := by
  show (match stepR l o with | some m => some m | none => none) = _
  cases stepR l o <;> rfl
theorem stepR_len {l m : List Nat} {o : Option (List V)} (h : stepR l o = some m) : m.length ≤ l.length + 1 := by
  have lp : ∀ i c, (putAt l i c).length ≤ l.length + 1 := fun i c => by
    simp only [putAt, List.length_append, List.length_cons, List.length_nil, List.length_take, List.length_drop]; omega
  have lt : ∀ i c, i < l.length → (turnAt l i c).length ≤ l.length + 1 := fun i c h => by
    simp only [turnAt, List.length_append, List.length_cons, List.length_nil, List.length_take, List.length_drop]; omega
  have lc : ∀ i, (cutAt l i).length ≤ l.length + 1 := fun i => by
    simp only [cutAt, List.length_append, List.length_take, List.length_drop]; omega
  match o, h with
  | some [x, .int i], h =>
    change (if _ then _ else _) = _ at h
    split at h
    · injection h with h; subst h; exact lc _
    · cases h
  | some [x, .int i, y], h =>
    change (match letOf y with | some c => _ | none => none) = _ at h
    split at h
    · split at h
      · injection h with h; subst h; exact lp _ _
      · split at h
        · rename_i hh
          injection h with h; subst h
          exact lt _ _ (by have := hh.2.1; have := hh.2.2.1; omega)
        · cases h
    · cases h
theorem ledR_len {l m : List Nat} {os : List (Option (List V))} (h : ledR l os = some m) : m.length ≤ l.length + os.length := by
  induction os generalizing l with
  | nil => injection h with h; subst h; simp
  | cons o r ih =>
    change (match stepR l o with | some m => ledR m r | none => none) = _ at h
    cases e : stepR l o with
    | none => rw [e] at h; cases h
    | some k =>
      rw [e] at h
      have h1 := ih h
      have h2 := stepR_len e
      rw [List.length_cons]; omega
/-- an odd one within -/
theorem ledR_odd {l m : List Nat} {os : List (Option (List V))} {o : Option (List V)} (h : ledR l os = some m) (k : Nat) (no : ∀ z : List Nat, z.length ≤ l.length + os.length → stepR z o = none) : ledR l (os.take k ++ [o] ++ os.drop k) = none := by
  have e : ledR l (os.take k ++ os.drop k) = some m := by rw [List.take_append_drop]; exact h
  rw [ledR_app] at e
  cases e1 : ledR l (os.take k) with
  | none => rw [e1] at e; cases e
  | some z =>
    have hz := ledR_len e1
    rw [List.append_assoc, ledR_app, e1]
    show ledR z ([o] ++ os.drop k) = none
    rw [ledR_app, ledR_one, no z (by rw [List.length_take] at hz; omega)]; rfl
def spLed (C : Addr) (K : PySem.W.Frag) : Sp := fun vs H Q E => ∃ (l : List Nat) (p : Addr) (xs : List V) (os : List (Option (List V))), vs = [.str (mkS l), .ref p] ∧ l.length ≤ 200 ∧ xs.length ≤ 200 ∧ SqL K H p xs ∧ xs.length = os.length ∧
  (∀ (i : Nat) x o, xs[i]? = some x → os[i]? = some o → Cg H x o) ∧ resQ C Q E H (ledR l os)
/-- a change that the laws make -/
def FitX : List V → Prop := fun xs => (∃ i : Int, xs = [.str (mkS ("cut" : Str).cps.toList), .int i]) ∨ ∃ (n : List Nat) (i : Int) (c : Nat), xs = [.str (mkS n), .int i, .str (mkS [c])] ∧ n.length ≤ 10 ∧ (∀ c ∈ n, c < 1000) ∧ Lc c
theorem FitX.cg {H : Hp} {q : Addr} {xs : List V} (f : FitX xs) (e : H q = some (.tup xs)) : Cg H (.ref q) (some xs) := by
  refine .tup e fun v hv => ?_
  rcases f with ⟨i, rfl⟩ | ⟨n, i, c, rfl, hn, _, _⟩
  · simp only [List.mem_cons, List.not_mem_nil, or_false] at hv
    rcases hv with rfl | rfl
    · exact ⟨by show (mkS _).length ≤ 1000; decide +kernel, _, .str _⟩
    · exact ⟨trivial, _, .int _⟩
  · simp only [List.mem_cons, List.not_mem_nil, or_false] at hv
    rcases hv with rfl | rfl | rfl
    · exact ⟨by show (mkS _).length ≤ 1000; rw [mkS_len]; omega, _, .str _⟩
    · exact ⟨trivial, _, .int _⟩
    · exact ⟨by show (mkS _).length ≤ 1000; rw [mkS_len]; show 1 ≤ 1000; decide, _, .str _⟩
theorem FitX.dat {K : PySem.W.Frag} {H : Hp} {q : Addr} {xs : List V} (f : FitX xs) (e : H q = some (.tup xs)) : Dat K H (.ref q) 20 := by
  refine dat_tup (k := 19) (SqT.of e) fun v hv => ?_
  rcases f with ⟨i, rfl⟩ | ⟨n, i, c, rfl, hn, hs, hc⟩
  · simp only [List.mem_cons, List.not_mem_nil, or_false] at hv
    rcases hv with rfl | rfl
    · exact dat_str (by decide +kernel)
    · exact dat_int
  · simp only [List.mem_cons, List.not_mem_nil, or_false] at hv
    rcases hv with rfl | rfl | rfl
    · exact dat_str (strOk_small fun c hc => by have := hs c hc; omega)
    · exact dat_int
    · exact dat_str (strOk_wd (Wd.one hc))
def spFitting : Sp := fun vs H Q _ => ∃ (m n : Int) (l : List Nat), vs = [.int m, .str (mkS l), .int n] ∧ l.length ≤ 500 ∧
  ∀ p q xs l' H', Same H H' → H' p = some (.tup [.ref q, .str (mkS l')]) → H' q = some (.tup xs) → FitX xs → stepR l (some xs) = some l' → Q (.ref p) H'
end N0

/-! B9: lists of changes that a law makes. -/
namespace N0
open PySem PySem.Spec PyProof.Rows L2
/-- all tuples stay -/
def TSame (H H' : Hp) : Prop := ∀ q ys, H q = some (.tup ys) → H' q = some (.tup ys)
theorem TSame.of {H H' : Hp} (s : Same H H') : TSame H H' := fun q ys e => s q _ e
theorem TSame.trans {H H1 H2 : Hp} (a : TSame H H1) (b : TSame H1 H2) : TSame H H2 := fun q ys e => b q ys (a q ys e)
theorem TSame.lst {H : Hp} {p : Addr} {xs zs : List V} (e : H p = some (.lst xs)) : TSame H (upd H p (.lst zs)) := fun q ys h => by
  rw [upd_ne (ne_of h e (by intro z; cases z))]; exact h
/-- a plain member -/
def PlT (v : V) : Prop := (∃ i, v = .int i) ∨ ∃ l : List Nat, v = .str (mkS l) ∧ l.length ≤ 1000 ∧ ∀ c ∈ l, c < 1000
def Item (H : Hp) (x : V) (o : Option (List V)) : Prop := (x = .non ∧ o = none) ∨ ∃ q ys, x = .ref q ∧ o = some ys ∧ H q = some (.tup ys) ∧ ∀ v ∈ ys, PlT v
theorem Item.same {H H' : Hp} {x : V} {o : Option (List V)} (g : Item H x o) (s : TSame H H') : Item H' x o := by
  rcases g with g | ⟨q, ys, h1, h2, h3, h4⟩
  · exact .inl g
  · exact .inr ⟨q, ys, h1, h2, s _ _ h3, h4⟩
theorem PlT.it {H : Hp} {v : V} (g : PlT v) : Sh v ∧ ∃ T, Kn H v T := by
  rcases g with ⟨i, rfl⟩ | ⟨l, rfl, h, _⟩
  · exact ⟨trivial, _, .int i⟩
  · exact ⟨by show (mkS l).length ≤ 1000; rw [mkS_len]; exact h, _, .str _⟩
theorem PlT.dat {K : PySem.W.Frag} {H : Hp} {v : V} (g : PlT v) : Dat K H v 19 := by
  rcases g with ⟨i, rfl⟩ | ⟨l, rfl, _, h⟩
  · exact dat_int
  · exact dat_str (strOk_small fun c hc => by have := h c hc; omega)
theorem Item.cg {H : Hp} {x : V} {o : Option (List V)} (g : Item H x o) : Cg H x o := by
  rcases g with ⟨rfl, rfl⟩ | ⟨q, ys, rfl, rfl, h3, h4⟩
  · exact .no .non (by decide)
  · exact .tup h3 fun v hv => (h4 v hv).it
theorem Item.dat {K : PySem.W.Frag} {H : Hp} {x : V} {o : Option (List V)} (g : Item H x o) : Dat K H x 20 := by
  rcases g with ⟨rfl, rfl⟩ | ⟨q, ys, rfl, rfl, h3, h4⟩
  · exact dat_non
  · exact dat_tup (k := 19) (SqT.of h3) fun v hv => (h4 v hv).dat
theorem PlT.s {l : List Nat} (h : l.length ≤ 1000) (k : ∀ c ∈ l, c < 1000) : PlT (.str (mkS l)) := .inr ⟨l, rfl, h, k⟩
theorem FitX.pl {xs : List V} (f : FitX xs) : ∀ v ∈ xs, PlT v := by
  intro v hv
  rcases f with ⟨i, rfl⟩ | ⟨n, i, c, rfl, hn, hs, hc⟩
  · simp only [List.mem_cons, List.not_mem_nil, or_false] at hv
    rcases hv with rfl | rfl
    · exact .s (by decide +kernel) (by decide +kernel)
    · exact .inl ⟨_, rfl⟩
  · simp only [List.mem_cons, List.not_mem_nil, or_false] at hv
    rcases hv with rfl | rfl | rfl
    · exact .s (by omega) hs
    · exact .inl ⟨_, rfl⟩
    · exact .s (by show 1 ≤ 1000; decide) (fun d hd => by rw [List.mem_singleton.mp hd]; have := hc.2; omega)
inductive Items (H : Hp) : List V → List (Option (List V)) → Prop where
  | nil : Items H [] []
  | cons {x : V} {o : Option (List V)} {xs : List V} {os : List (Option (List V))} (h : Item H x o) (t : Items H xs os) : Items H (x :: xs) (o :: os)
theorem Items.same {H H' : Hp} (s : TSame H H') : ∀ {xs : List V} {os : List (Option (List V))}, Items H xs os → Items H' xs os
  | _, _, .nil => .nil
  | _, _, .cons h t => .cons (h.same s) (t.same s)
theorem Items.len {H : Hp} : ∀ {xs : List V} {os : List (Option (List V))}, Items H xs os → xs.length = os.length
  | _, _, .nil => rfl
  | _, _, .cons h t => congrArg Nat.succ t.len
theorem Items.app {H : Hp} : ∀ {xs ys : List V} {os us : List (Option (List V))}, Items H xs os → Items H ys us → Items H (xs ++ ys) (os ++ us)
  | _, _, _, _, .nil, g => g
  | _, _, _, _, .cons h t, g => .cons h (t.app g)
theorem Items.take {H : Hp} : ∀ (n : Nat) {xs : List V} {os : List (Option (List V))}, Items H xs os → Items H (xs.take n) (os.take n)
  | 0, _, _, _ => .nil
  | _ + 1, _, _, .nil => .nil
  | n + 1, _, _, .cons h t => .cons h (t.take n)
theorem Items.drop {H : Hp} : ∀ (n : Nat) {xs : List V} {os : List (Option (List V))}, Items H xs os → Items H (xs.drop n) (os.drop n)
  | 0, _, _, g => g
  | _ + 1, _, _, .nil => .nil
  | n + 1, _, _, .cons h t => t.drop n
theorem Items.get {H : Hp} : ∀ {xs : List V} {os : List (Option (List V))}, Items H xs os → ∀ (i : Nat) x o, xs[i]? = some x → os[i]? = some o → Item H x o
  | _, _, .nil, i, x, o, h, _ => by simp at h
  | _, _, .cons h t, 0, x, o, h1, h2 => by injection h1 with h1; injection h2 with h2; subst h1 h2; exact h
  | _, _, .cons h t, i + 1, x, o, h1, h2 => t.get i x o h1 h2
theorem Items.mem {H : Hp} : ∀ {xs : List V} {os : List (Option (List V))}, Items H xs os → ∀ v ∈ xs, ∃ o, Item H v o
  | _, _, .cons h t, v, hv => by
    rcases List.mem_cons.mp hv with rfl | hv
    · exact ⟨_, h⟩
    · exact t.mem v hv
/-- an odd one: no short text takes it -/
def Bad (o : Option (List V)) : Prop := ∀ z : List Nat, z.length ≤ 99 → stepR z o = none
theorem bad_none : Bad none := fun _ _ => rfl
theorem bad_cut {i : Int} (h : 100 ≤ i) : Bad (some [.str (mkS ("cut" : Str).cps.toList), .int i]) := fun z hz => stepR_cutN fun q => by have := q.2.2; omega
theorem bad_put {y : V} : Bad (some [.str (mkS ("put" : Str).cps.toList), .int (-1), y]) := fun z hz => by
  cases e : letOf y with
  | none => exact stepR_no e
  | some c => exact stepR_else e (fun q => absurd q.2.1 (by decide)) (fun q => absurd q.2.1 (by decide))
theorem bad_turn : Bad (some [.str (mkS ("turn" : Str).cps.toList), .int 0]) := fun z hz => stepR_cutN fun q => absurd q.1 (by decide +kernel)
theorem bad_A : Bad (some [.str (mkS ("put" : Str).cps.toList), .int 0, .str (mkS ("A" : Str).cps.toList)]) := fun z hz => stepR_no (letOf_bad fun c hc h => by
  have e : ("A" : Str).cps.toList = [65] := by decide +kernel
  rw [e] at hc
  injection hc with hc
  subst hc
  exact absurd h.1 (by decide))
def qListOf (K : PySem.W.Frag) : List V → Hp → VK → Prop := fun xs H Q => ∃ p ys, xs = [.ref p] ∧ (SqL K H p ys ∨ SqT K H p ys) ∧ ∀ l, H l = none → Q (.ref l) (upd H l (.lst ys))
theorem c_listOf {X : Cx} : CallR X (.type "list") (qListOf X.K) := call_list_of
section
variable {σ : L2.St} {H : Hp} {te ta : TE} {g : TG} {K : PySem.W.Frag} {nx bk ct : L2.St → Hp → Prop} {rt : VK} {i : Nat}
theorem g_asg (h : te σ H (fun x H1 => g x σ H1 nx)) : tAsg te g (Ends.mk nx rt bk ct) σ H := h
theorem g_listOf {p : Addr} {ys : List V} {Q : VK} (h : SqL K H p ys ∨ SqT K H p ys) (q : ∀ l, H l = none → Q (.ref l) (upd H l (.lst ys))) : qListOf K [.ref p] H Q := ⟨p, ys, rfl, h, q⟩
theorem g_tup2 {p : Addr} {x y : V} {a b : Nat} {Q : L2.St → Hp → Prop} (h : SqT K H p [x, y]) (q : Q ((σ.set a (some x)).set b (some y)) H) : gTup K 2 (gCons (gName a) (gCons (gName b) gNil)) (.ref p) σ H Q :=
  ⟨p, [x, y], rfl, h, rfl, x, [y], rfl, y, [], rfl, rfl, q⟩
theorem g_BM {T : String} {r : V → List V → Hp → VK → Prop} {t : TA} {Q : VK} (h : ta σ H fun x H1 => tyV K T x H1 ∧ t σ H1 fun xs H2 => r x xs H2 Q) : tBM K T r ta t σ H Q := h
theorem g_append {l : Addr} {xs : List V} {y : V} {Q : VK} (h : H l = some (.lst xs)) (hl : xs.length ≤ 100000) (q : Q .non (upd H l (.lst (xs ++ [y])))) : rAppend (.ref l) [y] H Q :=
  ⟨l, xs, y, rfl, rfl, h, Nat.lt_of_le_of_lt hl (by decide), q⟩
end
end N0

/-! B10: a test of the text's own, called within a generator expression: what it leaves as it was. -/
namespace N0
open PySem PySem.Spec PyProof.Rows L2

/-- the written part stands -/
def Bk (base : Heap) (s : Shared) : Prop := ∀ b o, base.get? b = some o → s.heap.get? b = some o
theorem Bk.tok {base : Heap} {s : Shared} (h : Bk base s) (k : Nat) : Bk base { s with toks := k } := h
/-- the names of is_letter's text -/
structure LetSc (sc : Scope) : Prop where
  kind : sc.kind = .function
  co : sc.isCoroutine = false
  gen : sc.isGenerator = false
  cell : ∀ x ∈ sc.names, x.2 ≠ .cell
  thing : sc.names.lookup ("thing" : Str) = some .local
  isi : sc.names.lookup ("isinstance" : Str) = some .globalImplicit
  str : sc.names.lookup ("str" : Str) = some .globalImplicit
  len : sc.names.lookup ("len" : Str) = some .globalImplicit
  lets : sc.names.lookup ("LETTERS" : Str) = some .globalImplicit
structure LetMg (mg : Str → Option Value) : Prop where
  isi : mg "isinstance" = none
  str : mg "str" = none
  len : mg "len" = none
  lets : ∃ t, mg "LETTERS" = some (.str (mkS alpha) t)

section
variable {P : Program} {w : World} {A : Around} {E : Value → Shared → Prop} {K : PySem.W.Frag} {mg : Str → Option Value} {base : Heap} {env : Env} {s : Shared} {Q : Value → Shared → Prop}
/-- a built-in name, read in a def -/
theorem raw_blt {x : Str} {u : Value} {pos : Pos} (M : Mod K mg base) (hk : env.scope.kind = .function) (hg : env.globals = mainGlobals) (hbi : env.builtins = builtinsNs) (hx : env.kindOf x = some .globalImplicit) (hb : Bk base s)
    (hm : mg x = none) (hv : bootBuiltins x = some u) (h : Q u s) (hn : x ≠ "__name__" := by decide) (hd : (x == ("__debug__" : Str)) = false := by decide) : wpAny (model P w) A (eval (.Name x pos) env) Q E s := by
  obtain ⟨mb, h1, h2⟩ := M.blt
  exact Calls.Name_function_global hk hx (Calls.loadGlobal_builtin (by rw [hg]; exact M.glob.keeps hb) hm (by rw [hbi]; exact h1.keeps hb) ((h2 x hn).trans hv) h) hd
/-- a global name, read in a def -/
theorem raw_glob {x : Str} {u : Value} {pos : Pos} (M : Mod K mg base) (hk : env.scope.kind = .function) (hg : env.globals = mainGlobals) (hx : env.kindOf x = some .globalImplicit) (hb : Bk base s)
    (hm : mg x = some u) (h : Q u s) (hd : (x == ("__debug__" : Str)) = false := by decide) : wpAny (model P w) A (eval (.Name x pos) env) Q E s :=
  Calls.Name_function_global hk hx (Calls.loadGlobal_global (by rw [hg]; exact M.glob.keeps hb) hm h) hd
end
section
variable {P : Program} {w : World} {A : Around} {E : Value → Shared → Prop} {K : PySem.W.Frag} {mg : Str → Option Value} {base : Heap} {fd : FuncData} {L f : Addr} {s s0 : Shared} {m : Str → Option Value} {c : Nat} {t : Tok}
/-- is_letter's body, at a text of one sign -/
theorem let_body {p1 p2 p3 p4 p5 p6 p7 p8 p9 p10 p11 p12 p13 p14 : Pos} {j : Nat} {Q : Flow → Shared → Prop} (M : Mod K mg base) (S : LetSc fd.scope) (G : LetMg mg) (hgl : fd.globals = mainGlobals) (hbt : fd.builtins = builtinsNs)
    (hb : Bk base s) (hn : s.heap.Ns L m) (hm : m "thing" = some (.str ⟨#[c]⟩ t))
    (h : ∀ k, Q (.ret (.bool (decide (c ∈ alpha)))) { s with toks := k }) :
    wpAny (model P w) A (execs [.Return (some (.BoolOp .And [.Call (.Name "isinstance" p1) [.Name "thing" p2, .Name "str" p3] [] p4,
      .Compare (.Call (.Name "len" p5) [.Name "thing" p6] [] p7) [.Eq] [.Constant (.int 1) j p8] p9,
      .Compare (.Name "thing" p10) [.In] [.Name "LETTERS" p11] p12] p13)) p14] (callEnv fd L f)) Q E s := by
  obtain ⟨tL, hL⟩ := G.lets
  have ld : ∀ {k : Nat} {p : Pos} {Q : Value → Shared → Prop}, Q (.str ⟨#[c]⟩ t) { s with toks := k } → wpAny (model P w) A (eval (.Name "thing" p) (callEnv fd L f)) Q E { s with toks := k } :=
    fun q => ldc S.kind S.thing (m := m) hn hm q
  have kin : K.In s.heap := M.kin.keeps hb
  have e1 : ∀ {k : Nat} {Q : Value → Shared → Prop}, (∀ tk, Q (.bool true) { s with toks := tk }) → wpAny (model P w) A (call (.builtin "isinstance") [.str ⟨#[c]⟩ t, .type "str"]) Q E { s with toks := k } :=
    fun {k Q} q => PySem.W.kia_one (s := { s with toks := k }) PySem.W.kitx_str kin True.intro rfl (fun z => nomatch z) fun tk => q tk
  refine wpAny_execs_cons (wpAny_Return_some ?_)
  refine BoolOp_and (wpAny_Call_Name_kw (raw_blt M S.kind hgl hbt S.isi hb G.isi (u := .builtin "isinstance") (by decide +kernel) ?_))
  refine PyProof.Rows.callWith_builtin1 (Calls.spliced_cons (ld (k := s.toks) (Calls.spliced_cons (raw_blt M S.kind hgl hbt S.str hb G.str (u := .type "str") (by decide +kernel) (Calls.spliced_nil (e1 fun k1 => ?_))))))
  refine wpAny_truthy_bool ?_
  simp only [if_true]
  refine BoolOp_and (wpAny_Compare1 (wpAny_Call_Name_kw (raw_blt M S.kind hgl hbt S.len hb G.len (u := .builtin "len") (by decide +kernel) ?_)))
  refine PyProof.Rows.callWith_builtin1 (Calls.spliced_cons (ld (Calls.spliced_nil ?_)))
  refine PySem.P.len_str (by show ¬ (((1 : Nat) : Int) ≥ 2 ^ 63); omega) ?_
  refine wpAny_Constant_int (PySem.P.eq_int ?_)
  refine wpAny_truthy_bool ?_
  rw [show (((⟨#[c]⟩ : Str).length : Int) == 1) = true from rfl]
  simp only [if_true]
  refine BoolOp_one (wpAny_Compare1 (ld (raw_glob M S.kind hgl S.lets hb hL (PySem.P.in_str ?_))))
  rw [show (!(Builtin.Str.occurrences (mkS alpha) ⟨#[c]⟩ 0 (mkS alpha).length 1).isEmpty) = decide (c ∈ alpha) from (PySem.StrLaws.found_one (mkS alpha) c).trans (by rw [mkS_cps])]
  exact h _
end
/-- is_letter, called on a text of one sign, makes nothing but its frame -/
structure LetRaw (P : Program) (w : World) (K : PySem.W.Frag) (mg : Str → Option Value) (base : Heap) : Prop where
  ex : ∃ f, mg "is_letter" = some (.ref f) ∧ PySem.W.keepIn K (.ref f) = true ∧ ∀ (A : Around) (E : Value → Shared → Prop) (s : Shared) (c : Nat) (t : Tok), A.depth < recursionLimit → Bk base s →
    wpAny (model P w) A (call (.ref f) [.str ⟨#[c]⟩ t]) (fun y s3 => y = .bool (decide (c ∈ alpha)) ∧ Keeps s s3) E s
section
variable {P : Program} {w : World} {K : PySem.W.Frag} {mg : Str → Option Value} {base : Heap} {st : Stmt}
theorem let_raw {p1 p2 p3 p4 p5 p6 p7 p8 p9 p10 p11 p12 p13 p14 : Pos} {j : Nat} (M : Mod K mg base) (D : At K mg "is_letter" st) (S : LetSc (defScope st)) (G : LetMg mg) (hb : BindN "is_letter" st ["thing"])
    (hbd : defBody st = [.Return (some (.BoolOp .And [.Call (.Name "isinstance" p1) [.Name "thing" p2, .Name "str" p3] [] p4,
      .Compare (.Call (.Name "len" p5) [.Name "thing" p6] [] p7) [.Eq] [.Constant (.int 1) j p8] p9,
      .Compare (.Name "thing" p10) [.In] [.Name "LETTERS" p11] p12] p13)) p14]) : LetRaw P w K mg base := by
  obtain ⟨f, fd, hm, F⟩ := D.ex
  refine ⟨f, hm, F.kp, fun A E s c t hr hbk => ?_⟩
  obtain ⟨oc, od, dV, kV, doc, pm, an, cdv, ct, osl, rfl, lk, hcd, hD, _⟩ := F.ex
  have hdV : dV = .none := by
    rcases hD with ⟨_, e⟩ | ⟨e, _⟩
    · exact e
    · exact absurd rfl e
  subst hdV
  have KX : K.In s.heap := M.kin.keeps hbk
  have hbi := hb kV doc pm an cdv ct [.str ⟨#[c]⟩ t] rfl
  refine wpAny_call (codeAny_call_straight hr (KX _ _ lk) rfl (M.nolimit.keeps hbk) (PySem.W.codeRec_of KX hcd) rfl hbi S.cell ?_ (fun s1 x => ?_) S.co S.gen S.kind)
  · intro y hy
    rcases List.mem_cons.mp hy with rfl | hy
    · exact S.thing
    · cases hy
  · rw [hbd]
    have hb1 : Bk base s1 := fun b o e => x.keep b o (hbk b o e)
    refine let_body (t := t) (c := c) M S G rfl rfl hb1 x.ns rfl fun k => ?_
    exact ⟨rfl, (x.tok k).done⟩
/-- is_letter(x), x the sign that is walked -/
theorem let_elt {x : Str} {p1 p2 p3 : Pos} {A : Around} {E : Value → Shared → Prop} {env : Env} {s : Shared} {m : Str → Option Value} {c : Nat} {t : Tok} (M : Mod K mg base) (L : LetRaw P w K mg base)
    (hk : env.scope.kind = .function) (hg : env.globals = mainGlobals) (hx : env.scope.names.lookup x = some .local) (hl : env.scope.names.lookup ("is_letter" : Str) = some .globalImplicit) (hr : A.depth < recursionLimit)
    (hb : Bk base s) (hn : s.heap.Ns env.locals m) (hm : m x = some (.str ⟨#[c]⟩ t)) (hd : (x == ("__debug__" : Str)) = false := by decide) :
    wpAny (model P w) A (eval (.Call (.Name "is_letter" p1) [.Name x p2] [] p3) env) (fun y s3 => y = .bool (decide (c ∈ alpha)) ∧ Keeps s s3) E s := by
  obtain ⟨f, hmf, hkf, h⟩ := L.ex
  refine wpAny_Call_Name_kw (raw_glob M hk hg hl hb hmf ?_)
  refine PySem.W.callWith_K (h₀ := base) M.kin hkf (Calls.spliced_cons (wpAny_Name (wpAny_loadName_local hk hx hn hm ?_) hd))
  exact Calls.spliced_nil ⟨M.kin.keeps hb, h A E s c t hr hb⟩
end
/-! ### a code object's table, held by what is true of it: nothing is said of how it grows -/
def tabO (a : Addr) : HO := .ext fun h => ∃ ps : Array Value, h.get? a = some { cls := .none, data := .fields ps } ∧ TriplesOk ps.toList
def Tb (H : Hp) (a : Addr) : Prop := H a = some (tabO a)
theorem tabO_ok {P : Program} {w : World} {H : Hp} {h : Heap} {a : Addr} {ps : Array Value} (e : h.get? a = some { cls := .none, data := .fields ps }) (t : TriplesOk ps.toList) : ObjOk P w H h a (tabO a) :=
  ⟨⟨ps, e, t⟩, ⟨_, e⟩, fun h1 h2 ⟨qs, e1, t1⟩ k => ⟨qs, k _ e1, t1⟩⟩
theorem Tb.at {P : Program} {w : World} {H : Hp} {h : Heap} {a : Addr} (hok : HOk P w H h) (hT : Tb H a) : ∃ ps : Array Value, h.get? a = some { cls := .none, data := .fields ps } ∧ TriplesOk ps.toList :=
  (show ObjOk P w H h a (tabO a) from hok a _ hT).1
theorem Tb.upd {H : Hp} {a b : Addr} {o : HO} (hT : Tb H a) (h : H b = none) : Tb (upd H b o) a := by
  unfold Tb
  rw [upd_ne (fun z => by rw [← z, hT] at h; cases h)]
  exact hT
section
variable {X : Cx} {pins : List (Addr × Obj)} {σ : L2.St} {H : Hp} {s : Shared}
theorem inv_tb {a : Addr} {ps : Array Value} {h' : Heap} {g' : Array GenState} {d' : Drawn} {t' : Nat} (I : Inv X pins σ H s) (hT : Tb H a) (k : ∀ b o, b ≠ a → s.heap.get? b = some o → h'.get? b = some o)
    (hm : h'.get? a = some { cls := .none, data := .fields ps }) (ht : TriplesOk ps.toList) (hg : AllBare g') : Inv X pins σ H { s with heap := h', gens := g', drawn := d', toks := t' } := by
  have ne : ∀ b, H b = none → b ≠ a := fun b e z => by rw [z, hT] at e; cases e
  refine I.step (g' := g') (d' := d') (ch := []) (fun b hb => by cases hb) (fun b o _ _ _ e n => k b o (ne b n) e) (fun b o _ _ _ e n => ⟨o.slots, k b o (ne b n) e⟩)
    (fun b o _ e n => n) (fun b o _ e => ?_) (fun b xs e => e) (fun b o u e => e) (fun b qs e => ⟨#[], by simpa using e⟩) (fun m hn => ?_) (fun b u e => ?_) hg
  · by_cases hb : b = a
    · exact ⟨_, hb ▸ hm⟩
    · exact ⟨o, k b o hb e⟩
  · obtain ⟨ob, es, ep, ho, r⟩ := hn
    exact ⟨ob, es, ep, k _ ob (ne _ I.free) ho, r⟩
  · by_cases hb : b = a
    · subst hb
      rw [hT] at e
      injection e with e
      subst e
      exact tabO_ok hm ht
    · refine (I.hok b u e).stay (fun d v hd q => k d v (fun z => ?_) q) (fun d q => q) fun d xs q => q
      rcases hd with y | y
      · exact hb (y.symm.trans z)
      · rw [z, hT] at y
        cases y
end
end N0

/-! B11: all(f(x) for x in a text), f a def of the text. -/
namespace N0
open PySem PySem.Spec PyProof.Rows L2
section
variable {X : Cx} {pins : List (Addr × Obj)} {σ : L2.St} {H : Hp} {s : Shared}
/-- the element: a test of the sign c, within the bounds of the call -/
def SignTest (X : Cx) (scope : Scope) (x : Str) (elt : Expr) (pb : Nat → Bool) : Prop :=
  ∀ (env : Env) (A : Around) (E : Value → Shared → Prop) (c : Nat) (t : Tok) (s : Shared) (m : Str → Option Value), env.scope = scope → env.globals = mainGlobals → A.handled = none → A.depth ≤ X.A.depth + 1 → Mod X.K X.mg X.base → Bk X.base s → s.heap.Ns env.locals m → m x = some (.str ⟨#[c]⟩ t) →
    wpAny (model X.prog X.w) A (eval elt env) (fun y s3 => y = .bool (pb c) ∧ Keeps s s3) E s
/-- what a generator over the signs of z yields, its j-th value -/
def Yields (pb : Nat → Bool) (z : Str) (j : Nat) (y : Value) : Prop := ∃ d, z.cps[j]? = some d ∧ y = .bool (pb d)
/-- a generator over the signs of z, ready; of what it does nothing is seen -/
structure Ready1 (X : Cx) (pins : List (Addr × Obj)) (σ : L2.St) (H : Hp) (z : Str) (pb : Nat → Bool) (g : Addr) (s5 : Shared) : Prop where
  ex : ∃ own wrt gs F Sg, WalksS X.prog X.w X.A.in1 g own wrt gs z.cps.size F Sg ∧ Sg 0 s5 ∧ TruthOf X.prog X.w X.A.in1 F (GxR.trF pb z.cps.toList) ∧ ∀ s', Moved wrt gs s5 s' → Inv X pins σ H s'
/-- the expression's code object: found in the table, or made and put there; the table stays well formed -/
theorem code_there {M : Model} {A : Around} {E : Value → Shared → Prop} {env : Env} {c T : Addr} {ps : Array Value} {pos : Pos} {q : Str} {sc : Scope} {s : Shared} {G : Value → Shared → Prop} (hc : env.code = .ref c) (cd : PySem.W.CodeHd s.heap c T)
    (eT : s.heap.get? T = some { cls := .none, data := .fields ps }) (ok : TriplesOk ps.toList)
    (h : ∀ (code : Value) (h3 : Heap) (tk : Nat) (qs : Array Value), Heap.ExtBut T s.heap h3 → s.heap.objs.size ≤ h3.objs.size → h3.get? T = some { cls := .none, data := .fields qs } → TriplesOk qs.toList → G code { s with heap := h3, toks := tk }) :
    wpAny M A (genexprCode env pos q sc) G E s := by
  cases hf : codeAmong pos ps.toList with
  | some cv => exact wpAny_genexprCode_hit hc (cd.code eT ok) hf (h cv s.heap s.toks ps (Heap.ExtBut.refl _ _) (Nat.le_refl _) eT ok)
  | none =>
    refine wpAny_genexprCodeX hc (cd.code eT ok) (cd.tab eT) hf fun c' h' tk hx hge hlt co _ tab _ => h _ h' tk _ hx (Nat.le_trans hge (Nat.le_of_lt hlt)) tab.2 ?_
    obtain ⟨_, _, _, _, _, _, _, _, _, _, _, _, _, _, _, _, _, _, _, r, _⟩ := co
    exact r
variable {c T : Addr} {elt iter : Expr} {x : Str} {px p pos gpos : Pos} {scope : Scope} {pb : Nat → Bool} {te : TE} {k : Nat}
theorem gen1 {G : Value → Shared → Prop} {R : Str → Hp → Prop} (hr : Room k X.A) (TB : GxR.TabB X.base X.mg c T) (hcode : X.env.code = .ref c) (gs : GxR.GenS X.env scope x) (hi : PE X iter te) (hel : SignTest X scope x elt pb)
    (hfold : ∀ u, genFold iter X.env u = pure u) (I : Inv X pins σ H s) (h : te σ H fun v H1 => ∃ z : Str, v = .str z ∧ Tb H1 T ∧ R z H1) (hQ : ∀ z H1 g s5, R z H1 → Ready1 X pins σ H1 z pb g s5 → G (.ref g) s5) :
    wpAny (model X.prog X.w) X.A (eval (.GeneratorExp elt [⟨.Name x px, iter, [], 0⟩] scope gpos) X.env) G X.xe s := by
  refine wpAny_GeneratorExp_walksQD hr.hd gs.co (closure_ok gs.free) gs.cell gs.dot gs.loc gs.kind (Nat.lt_of_le_of_lt (Nat.le_succ _) (by have := hr.dp; omega : X.A.depth + 1 < recursionLimit)) ?_ hfold
  refine thn (hi.run pins s σ H _ I h) fun u s1 ⟨v, H1, J1, ru, z, ev, hT, rz⟩ => ?_
  subst ev
  obtain ⟨tz, rfl⟩ := (show ∃ tz, u = Value.str z tz from ru)
  obtain ⟨ps, eT, okT⟩ := hT.at J1.hok
  refine wpAny_pyIter_str fun it Sw Wk hSw => ?_
  -- the iterator is the newest object, above all that stood and apart from the table
  have more : ∀ b ob, s1.heap.get? b = some ob → (s1.heap.push it).get? b = some ob := fun _ _ e => Heap.get?_push_of_some _ e
  have ltT := Heap.lt_size eT
  have stat : cStatics < s1.heap.objs.size ∧ cStatics ≠ T := by
    obtain ⟨_, hns, _⟩ := J1.nolimit
    obtain ⟨oc, es, ep, ho, hd, _⟩ := id hns
    exact ⟨hns.lt, fun e => by rw [e, eT] at ho; injection ho with ho; rw [← ho] at hd; cases hd⟩
  have baseT : ∀ b ob, X.base.get? b = some ob → b ≠ T := fun b ob e y => by
    have n := (J1.bs b ob e).2
    rw [y, hT] at n; cases n
  refine ⟨J1.nolimit.push it, code_there hcode (TB.code.keeps fun b ob e => more b ob (J1.bk b ob e)) (more _ _ eT) okT fun code h3 tk qs hx hsz eq okq => ?_⟩
  have up : ∀ b ob, b ≠ T → s1.heap.get? b = some ob → h3.get? b = some ob := fun b ob y e => hx b ob y (more b ob e)
  have low : s1.heap.objs.size < h3.objs.size := Nat.lt_of_lt_of_le (by rw [Heap.size_push]; exact Nat.lt_succ_self _) hsz
  obtain ⟨bm, ob, n1, n2, n3, n4, n5, n6, n7, n8⟩ := id TB.bm
  refine wpAny_builtinsFor (by rw [J1.ok.glob]; exact ((J1.mod.glob.keeps J1.bk).push it).extBut hx TB.gP) n1 n2 (up _ _ n4 (J1.bk _ _ n5)) n6 n7 n8 ?_
  refine ⟨_, [s1.heap.objs.size], [s1.heap.objs.size], z.cps.size, SignAt z, Sw, fun _ => true, Yields pb z, rfl, Wk, ?st, fun b hb => by rw [List.mem_singleton.mp hb]; exact low, (J1.nolimit.push it).extBut hx stat.2, fun y => Nat.lt_irrefl _ (List.mem_singleton.mp y ▸ stat.1), ?quiet, ?rest⟩
  case st =>
    refine (Wk X.A hr.hd).frame _ _ _ hSw fun b hb ob e => hx b ob (fun y => ?_) e
    rw [List.mem_singleton.mp hb] at y
    exact Nat.lt_irrefl _ (y ▸ ltT)
  case quiet =>
    refine fun top hup => ⟨fun A' E' i v s2 m2 _ _ _ _ _ _ _ => ?_, fun A' E' i v s2 m2 hA hD _ hv _ hn hm hk => ?_⟩
    · rw [List.forIn_nil]
      exact wpAny_pure ⟨rfl, s2.heap, s2.toks, rfl, fun _ _ e => e⟩
    · obtain ⟨d, td, hd, rfl⟩ := hv
      refine wpAny_mono (hel _ A' E' d td s2 m2 rfl J1.ok.glob hA hD J1.mod (fun b ob e => ?_) hn hm) (fun y s3 r => ⟨⟨d, hd, r.1⟩, r.2⟩) fun _ _ e => e
      have here := up b ob (baseT b ob e) (J1.bk b ob e)
      refine hk b (List.mem_range.mpr (Heap.lt_size here)) (fun y => ?_) ob (hup b ob here)
      exact Nat.lt_irrefl _ (List.mem_singleton.mp y ▸ Heap.lt_size (J1.bk b ob e))
  case rest =>
    intro g h5 t5 gst bare _ _ k5 Wg at5
    rw [GxR.passing_true, List.length_range] at Wg
    have yield : ∀ {j : Nat} {y : Value}, (∃ i, (List.range z.cps.size)[j]? = some i ∧ Yields pb z i y) → Yields pb z j y := fun ⟨i, e, w⟩ => by
      obtain ⟨hj, ej⟩ := List.getElem?_eq_some_iff.mp e
      rw [List.getElem_range] at ej
      rw [ej]; exact w
    refine hQ z H1 g _ rz ⟨_, _, _, _, _, Wg.in4_1, at5, fun j y sj Qj Ej hy hQj => ?_, fun s' mv => ?_⟩
    · obtain ⟨d, hd, rfl⟩ := yield hy
      rw [GxR.trF_some (show z.cps.toList[j]? = some d by rw [Array.getElem?_toList, hd])] at hQj
      exact wpAny_truthy_bool hQj
    · have old : ∀ b ob, s1.heap.get? b = some ob → b ∉ [h3.objs.size, s1.heap.objs.size] := fun b ob e hb => by
        have hl := Heap.lt_size e
        rcases List.mem_cons.mp hb with y | hb
        · exact Nat.lt_irrefl _ (Nat.lt_trans low (y ▸ hl))
        · exact Nat.lt_irrefl _ (List.mem_singleton.mp hb ▸ hl)
      have J := inv_tb (h' := s'.heap) (g' := s'.gens) (d' := s'.drawn) (t' := s'.toks) J1 hT (fun b ob y e => mv.heap b ob (old b ob e) (k5 b ob (up b ob y e))) (mv.heap T _ (old T _ eT) (k5 T _ eq)) okq (AllBare.movedS (J1.bare.push bare) mv)
      exact GxR.sh_eta s1 s' mv.os ▸ J
/-- all(test for x in e), e a text; the table at T is held -/
def tAll1 (T : Addr) (pb : Nat → Bool) (te : TE) : TE := fun σ H Q => te σ H fun v H1 => ∃ z : Str, v = .str z ∧ Tb H1 T ∧ Q (.bl (z.cps.toList.all pb)) H1
theorem pe_all1 (hr : Room k X.A) (hg : Gl X "all") (hm : X.mg "all" = none) (TB : GxR.TabB X.base X.mg c T) (hcode : X.env.code = .ref c) (gs : GxR.GenS X.env scope x) (hi : PE X iter te) (hel : SignTest X scope x elt pb) (hfold : ∀ u, genFold iter X.env u = pure u) :
    PE X (.Call (.Name "all" p) [.GeneratorExp elt [⟨.Name x px, iter, [], 0⟩] scope gpos] [] pos) (tAll1 T pb te) :=
  ⟨fun _ _ _ _ Q I h => wpAny_Call_Name_kw (ld_blt I hg hm (u := .builtin "all") (by decide +kernel) (PyProof.Rows.callWith_builtin1 (Calls.spliced_cons
    (gen1 (R := fun z H1 => Q (.bl (z.cps.toList.all pb)) H1) hr TB hcode gs hi hel hfold I h fun z H1 g s5 rz ⟨own, wrt, gst, F, Sg, Wg, at5, tr, back⟩ =>
      Calls.spliced_nil (call_all_walkS (Wg.self 0 _ _ _ at5 ⟨g, own, wrt, gst, _, F, Sg, _, rfl, Wg, at5, tr, fun s' mv => ⟨.bl _, H1, back s' mv, rfl, by rw [GxR.all_signs z pb]; exact rz⟩⟩)))) rfl rfl))⟩
theorem gens_of {env : Env} {scope : Scope} {x : Str} (h1 : scope.kind = .function) (h2 : scope.isCoroutine = false) (h3 : ∀ y ∈ scope.names, y.2 ≠ .cell) (h4 : scope.names.lookup (".0" : Str) = some NameKind.local) (h5 : scope.names.lookup x = some .local)
    (h6 : ∀ y ∈ scope.names, y.2 ≠ .free) : GxR.GenS env scope x := ⟨h1, h2, h3, h4, h5, fun y hy e => absurd e (h6 y hy)⟩
end
end N0

/-! B12: a def whose code object's table is held, from the head to the law's end. -/
namespace N0
open PySem PySem.Spec PyProof.Rows L2
/-- the code object of the def called x is c -/
def CodeAt (K : PySem.W.Frag) (mg : Str → Option Value) (x : Str) (c : Addr) : Prop := ∀ (f : Addr) (oc : Value) (od : Option Addr) (fd : FuncData) (osl : Array (Option Value)), mg x = some (.ref f) → K.lookup f = some ⟨oc, od, .func fd, osl⟩ → fd.code = .ref c
section
variable {P : Program} {w : World} {K : PySem.W.Frag} {mg : Str → Option Value} {base : Heap} {x : Str} {st : Stmt} {N ps : List Str} {sp : Sp} {k : Nat} {c : Addr}
/-- as At.ok, the body runs with the code object c -/
theorem At.okT (A : At K mg x st) (hc : CodeAt K mg x c) (S : FnScope N ps (defScope st)) (hb : BindN x st ps) (len : ∀ vs H Q E, sp vs H Q E → vs.length = ps.length)
    (hbody : ∀ (f : Addr) (A : Around) (outer : List Env) (s : Shared) (H : Hp) (vs : List V) (Q : VK) (E : XK), Room k (A.deeper (envOfC x (defScope st) s.heap.objs.size f (.ref c))) → sp vs H Q E →
      ∃ t, PSs (cxOf CX0 P w K mg base N x (defScope st) f (.ref c) A outer s H E).nox (defBody st) t ∧ t { nx := fun _ H' => Q .non H', rt := Q } (start N vs) H) : Dd P w K mg base CX0 (k + 1) x ps sp := by
  obtain ⟨f, fd, hm, F⟩ := A.ex
  have F0 := F
  obtain ⟨oc, od, dV, kV, doc, pm, an, cdv, ct, osl, rfl, lk, hcd, _, _⟩ := F.ex
  have e : cdv = .ref c := hc f oc od _ osl hm lk
  subst e
  refine ⟨f, _, hm, F0.kp, F0.bindsN hb, fn_of lk hcd S len fun A outer s H vs Q E hr h => ?_, fn_there F0⟩
  obtain ⟨t, h1, h2⟩ := hbody f A outer s H vs Q E hr h
  exact ⟨t, h1.nox, h2⟩
/-- a promise that holds the table, where the table stands empty at the entry -/
theorem retab {f T : Addr} {fd : FuncData} (F : FnOk P w K mg base CX0 k f fd ps sp) : FnOk P w K mg base CX0 k f fd ps (fun vs H Q E => H T = some (.tbl #[]) ∧ sp vs (upd H T (tabO T)) (fun v H' => Tb H' T ∧ ∀ H2, Q v H2) E) := by
  refine ⟨fun vs H Q E h => F.len _ _ _ _ h.2, fun A outer s H args us vs Q E hr e0 hb r ⟨hT, hsp⟩ => ?_⟩
  have ne : ∀ b, H b = none → b ≠ T := fun b e z => by rw [z, hT] at e; cases e
  have hTs : s.heap.get? T = some { cls := .none, data := .fields #[] } := e0.hok T _ hT
  have off : ∀ {b : Addr}, b ≠ T → upd H T (tabO T) b = H b := fun h => upd_ne h
  have up : ∀ {b : Addr} {u : HO}, H b = some u → (∀ q, u ≠ .tbl q) → upd H T (tabO T) b = some u := fun {b u} e q => by
    rw [off (fun z => by rw [z, hT] at e; exact q _ (Option.some.inj e).symm)]
    exact e
  have e1 : Env0 P w K mg base A outer s (upd H T (tabO T)) := by
    refine { e0 with bs := fun b o e => ⟨(e0.bs b o e).1, ?_⟩, frf := fun b hb => ?_, hok := fun b u e => ?_ }
    · rw [off (ne b (e0.bs b o e).2)]; exact (e0.bs b o e).2
    · rw [off (ne b (e0.frf b hb))]; exact e0.frf b hb
    · by_cases hb : b = T
      · subst hb
        rw [upd_same] at e
        injection e with e
        subst e
        exact tabO_ok hTs (by first | trivial | exact True.intro | decide)
      · rw [off hb] at e
        exact (e0.hok b u e).stay (fun _ _ _ q => q) (fun d q => up q fun _ z => nomatch z) fun d xs q => up q fun _ z => nomatch z
  refine codeAny_mono (F.run A outer s _ args us vs _ E hr e1 hb r hsp) fun r s' hq => ?_
  cases r with
  | error e => exact hq
  | ok fl =>
    cases fl with
    | next => exact hq
    | brk => exact hq
    | cont => exact hq
    | ret u =>
      obtain ⟨v, H', os, bare, un, hok, rv, hT', q⟩ := hq
      obtain ⟨ps', hps, _⟩ := Tb.at hok hT'
      have off' : ∀ {b : Addr}, b ≠ T → upd H' T (.tbl ps') b = H' b := fun h => upd_ne h
      have up' : ∀ {b : Addr} {u : HO}, H' b = some u → u ≠ tabO T → upd H' T (.tbl ps') b = some u := fun {b u} e q => by
        rw [off' (fun z => by rw [z, hT'] at e; exact q (Option.some.inj e).symm)]
        exact e
      refine ⟨v, upd H' T (.tbl ps'), os, bare, ?_, fun b u e => ?_, rv, q _⟩
      · refine ⟨fun b o e n => un.keep b o e (by rw [off (ne b n)]; exact n), fun b o e n => un.slot b o e (by rw [off (ne b n)]; exact n), fun b o e n hx => ?_, un.there, fun b xs e => ?_, fun b o u e => ?_, fun b qs e => ?_⟩
        · rw [off' (ne b n)]
          exact un.free b o e (by rw [off (ne b n)]; exact n) hx
        · exact up' (un.tups b xs (up e fun _ z => nomatch z)) (fun z => nomatch z)
        · exact up' (un.frzs b o u (up e fun _ z => nomatch z)) (fun z => nomatch z)
        · by_cases hb : b = T
          · subst hb
            rw [hT] at e
            injection e with e
            injection e with e
            subst e
            exact ⟨ps', by rw [upd_same]; simp⟩
          · rw [off' hb]
            exact un.tbls b qs (by rw [off hb]; exact e)
      · by_cases hb : b = T
        · subst hb
          rw [upd_same] at e
          injection e with e
          subst e
          exact hps
        · rw [off' hb] at e
          exact (hok b u e).stay (fun _ _ _ q => q) (fun d q => up' q fun z => nomatch z) fun d xs q => up' q fun z => nomatch z
end
/-! ### the head's facts, the empty tables left out -/
def obsT (fa : List He.Fa) (fn : List He.DefD) (tf : List He.Defn) (ex : PySem.W.Frag → Bool) (g : Addr → Option Obj) (K : PySem.W.Frag) : He.AlD := ((He.obsD fa fn K).1 && (ex K && He.tabsB g tf K), (He.obsD fa fn K).2)
def obsTG (n : Nat) (fa : List He.Fa) (fn : List He.DefD) (tf : List He.Defn) (ex : PySem.W.Frag → Bool) (g : Addr → Option Obj) : He.AlD := obsT fa fn tf ex g (He.frT g (He.asD g n))
/-- what is known of the table of the def p -/
structure TabAt (K : PySem.W.Frag) (h : Heap) (p : He.Defn) : Prop where
  hd : PySem.W.codeHdIn K (He.cT K p).1 (He.cT K p).2 = true
  out : K.lookup (He.cT K p).2 = none
  empty : h.get? (He.cT K p).2 = some { cls := .none, data := .fields #[] }
theorem tabAt_of {g : Addr → Option Obj} {as : List Addr} {h : Heap} {tf : List He.Defn} (hg : ∀ a o, g a = some o → h.get? a = some o) (e : He.tabsB g tf (He.frT g as) = true) : ∀ p ∈ tf, TabAt (He.frT g as) h p := by
  intro p hp
  have e1 := List.all_eq_true.mp e p hp
  obtain ⟨h1, h2⟩ := Bool.and_eq_true_iff.mp e1
  cases q : g (He.cT (He.frT g as) p).2 with
  | none => rw [q] at h2; cases h2
  | some o =>
    rw [q] at h2
    exact ⟨h1, He.frT_none q h2, by rw [hg _ _ q, He.emptyTab_eq h2]⟩
def hookT (n : Nat) (fa : List He.Fa) (fn : List He.DefD) (tf : List He.Defn) (ex : PySem.W.Frag → Bool) : PySem.W.Hook where
  α := He.AlD
  obs := fun s => obsTG n fa fn tf ex s.heap.get?
  val := fun _ => He.valD fn
  says := fun _ h => ∃ K : PySem.W.Frag, K.In h ∧ He.SaysD fa fn K ∧ ex K = true ∧ ∀ p ∈ tf, TabAt K h p
  of := fun w s e => by
    refine ⟨He.frT s.heap.get? (He.asD s.heap.get? n), He.frT_in, ?_⟩
    obtain ⟨h1, h2⟩ := Prod.mk.inj (show ((He.obsD fa fn _).1 && (ex _ && He.tabsB _ tf _), (He.obsD fa fn _).2) = (true, fn.map He.DefD.val) from e)
    obtain ⟨h3, h4⟩ := Bool.and_eq_true_iff.mp h1
    obtain ⟨h5, h6⟩ := Bool.and_eq_true_iff.mp h4
    exact ⟨Prod.ext h3 h2, h5, tabAt_of (fun _ _ q => q) h6⟩
  keeps := fun _ _ _ ⟨K, kin, c, e, t⟩ k => ⟨K, kin.keeps k, c, e, fun p hp => ⟨(t p hp).hd, (t p hp).out, k _ _ (t p hp).empty⟩⟩
theorem obsTG_eq {n : Nat} {fa : List He.Fa} {fn : List He.DefD} {tf : List He.Defn} {ex : PySem.W.Frag → Bool} {g : Addr → Option Obj} {s : Shared} (h : ∀ a, g a = s.heap.get? a) : obsTG n fa fn tf ex g = (hookT n fa fn tf ex).obs s := by
  rw [show g = s.heap.get? from funext h]; rfl
/-- the code object of a def of the text -/
theorem codeAt_of {K : PySem.W.Frag} {h : Heap} {mg : Str → Option Value} {x : Str} (hm : mg x = some (.ref (He.fAd K (x, none)))) (hd : PySem.W.codeHdIn K (He.cT K (x, none)).1 (He.cT K (x, none)).2 = true)
    (hr : ∀ oc od fd osl, K.lookup (He.fAd K (x, none)) = some ⟨oc, od, .func fd, osl⟩ → ∃ c, fd.code = .ref c) : CodeAt K mg x (He.cT K (x, none)).1 := by
  intro f oc od fd osl hf lk
  rw [hm] at hf
  injection hf with hf
  injection hf with hf
  subst hf
  obtain ⟨c, hc⟩ := hr _ _ _ _ lk
  rw [hc]
  exact congrArg Value.ref (He.codeOf_eq lk hc).symm
end N0

/-! B13: what a word is. -/
namespace N0
open PySem PySem.Spec PyProof.Rows L2
/-- a word: at most 24 letters, each from a to z -/
def wordB : V → Bool
  | .str z => decide (z.length ≤ 24) && z.cps.toList.all fun c => decide (c ∈ alpha)
  | _ => false
theorem wordB_str (l : List Nat) : wordB (.str (mkS l)) = (decide (l.length ≤ 24) && l.all fun c => decide (c ∈ alpha)) := by
  show (decide ((mkS l).length ≤ 24) && (mkS l).cps.toList.all fun c => decide (c ∈ alpha)) = _
  rw [mkS_len, mkS_cps]
theorem wordB_wd {l : List Nat} (h : l.length ≤ 24) (w : Wd l) : wordB (.str (mkS l)) = true := by
  rw [wordB_str, decide_eq_true h, Bool.true_and, List.all_eq_true]
  exact fun c hc => decide_eq_true ((alpha_mem c).mpr (w c hc))
theorem wordB_kn {H : Hp} {y : V} {T : String} (k : Kn H y T) (h : T ≠ "str") : wordB y = false := by
  cases k <;> first | rfl | exact absurd rfl h
theorem depth1 {k : Nat} {A : Around} (hr : Room k A) : A.depth + 1 < recursionLimit := by have := hr.dp; omega
def spIsWord (T : Addr) : Sp := fun vs H Q _ => ∃ (x : V) (U : String), vs = [x] ∧ Kn H x U ∧ Sh x ∧ Tb H T ∧ Q (.bl (wordB x)) H
section
variable {K : PySem.W.Frag} {σ : L2.St} {H : Hp} {Q : VK} {P : Addr}
theorem g_lc {wi : TI} {g : TG} {tt : TT} {te : TE} {vs : List Nat}
    (h : wi σ H fun J H1 => ∀ D, H1 D = none → ∃ W : Nat → Nat → Hp → Prop, (∃ m, W 0 m (upd H1 D (.lst []))) ∧ ∀ i m H, W i m H → (J.stop i H ∧ Q (.ref D) H) ∨ (J.go i H ∧ ∃ Nx : Hp → Prop, (∀ H', Nx H' → ∃ m', m' < m ∧ W (i + 1) m' H') ∧
      ∀ x H', J.yld i H x H' → g x (wipe σ vs) H' fun σ2 H2 => wipe σ2 vs = wipe σ vs ∧ tt σ2 H2 fun b H3 => if b = true then te σ2 H3 fun y H4 => ∃ acc, H4 D = some (.lst acc) ∧ acc.length < sizeLine ∧ Nx (upd H4 D (.lst (acc ++ [y]))) else Nx H3)) :
    tLc wi g tt te vs σ H Q := h
theorem g_yes {A B : Hp → Prop} (h : A H) : tYes σ H (fun b H3 => if b = true then A H3 else B H3) := by
  show if true = true then A H else B H
  rw [if_pos rfl]; exact h
theorem g_tgt {i : Nat} {v : V} {A : L2.St → Prop} {B : L2.St → Hp → Prop} (h : A (σ.set i (some v))) (k : B (σ.set i (some v)) H) : gName i v σ H (fun σ2 H2 => A σ2 ∧ B σ2 H2) := ⟨h, k⟩
theorem g_iStr {R : It → Hp → Prop} {l : List Nat} {i : Nat} (h : σ[i]? = some (some (.str (mkS l)))) (q : R (Its (mkS l)) H) : iStr (tVar i) σ H R := ⟨_, h, _, rfl, q⟩
theorem g_all1 {pb : Nat → Bool} {i : Nat} {l : List Nat} (h : σ[i]? = some (some (.str (mkS l)))) (hT : Tb H P) (q : Q (.bl (l.all pb)) H) : tAll1 P pb (tVar i) σ H Q :=
  ⟨_, h, mkS l, rfl, hT, by rw [mkS_cps]; exact q⟩
theorem its_at {l : List Nat} {i c : Nat} (h : (mkS l).cps[i]? = some c) : l[i]? = some c := by
  rw [← h]; simp [mkS]
theorem ones_len (l : List Nat) : ((l.map fun c => mkS [c]).map (·.length)).sum = l.length := by
  induction l with
  | nil => rfl
  | cons a r ih => simp only [List.map_cons, List.sum_cons, List.length_cons, ih, mkS_len, List.length_nil]; omega
end
/-! ### things that are no texts, in a menu -/
def NG (H : Hp) (v : V) : Prop := ∃ T, Kn H v T ∧ T ≠ "str"
theorem NG.same {H H' : Hp} {v : V} (g : NG H v) (s : Same H H') : NG H' v := let ⟨T, k, h⟩ := g; ⟨T, k.same s, h⟩
def NgE (te : TE) (σ : L2.St) (H : Hp) : Prop := ∀ H1, Same H H1 → ∀ Q : VK, (∀ v H2, Same H1 H2 → NG H2 v → Q v H2) → te σ H1 Q
def NgA (ta : TA) (σ : L2.St) (H : Hp) (n : Nat) : Prop := ∀ H1, Same H H1 → ∀ Q : List V → Hp → Prop, (∀ vs H2, Same H1 H2 → vs.length = n → (∀ v ∈ vs, NG H2 v) → Q vs H2) → ta σ H1 Q
section
variable {σ : L2.St} {H : Hp} {te : TE} {ta : TA} {v : V} {i n : Nat}
theorem ngE_c {T : String} (g : ∀ H, Kn H v T) (hT : T ≠ "str") : NgE (tC v) σ H := fun H1 s Q q => q v H1 (Same.refl _) ⟨_, g H1, hT⟩
theorem ngE_non : NgE (tC .non) σ H := ngE_c (fun _ => .non) (by decide)
theorem ngE_int {k : Int} : NgE (tC (.int k)) σ H := ngE_c (fun _ => .int k) (by decide)
theorem ngE_bl {k : Bool} : NgE (tC (.bl k)) σ H := ngE_c (fun _ => .bl k) (by decide)
theorem ngE_neg {k : Int} : NgE (tUn (rU fun i => .int (-i)) (tC (.int k))) σ H := fun H1 s Q q => ⟨k, rfl, q _ H1 (Same.refl _) ⟨_, .int _, by decide⟩⟩
theorem ngE_lst (h : ItA ta σ H n) (hn : n ≤ 1000) : NgE (tLst ta) σ H := fun H1 s Q q => h H1 s _ fun vs H2 s2 hl g => ⟨by rw [hl]; exact small_line (by omega), fun p hp => q _ _ (s2.trans (Same.new hp)) ⟨_, .lst upd_same, by decide⟩⟩
theorem ngE_tup (h : ItA ta σ H n) (hn : n ≤ 1000) : NgE (tTup ta) σ H := fun H1 s Q q => h H1 s _ fun vs H2 s2 hl g => ⟨by rw [hl]; exact small_line (by omega), fun p hp => q _ _ (s2.trans (Same.new hp)) ⟨_, .tup upd_same, by decide⟩⟩
theorem ngE_dK : NgE tDNewK σ H := fun H1 s Q q p hp => q _ _ (Same.new hp) ⟨_, .dK upd_same, by decide⟩
theorem ngE_disp {z : Str} {k : Int} : NgE (tDisp [(tC (.str z), tC (.int k))]) σ H := fun H1 s Q q p hp =>
  ⟨upd_same, [(.inr z, .int k)], rfl, (by show 1 ≤ 15; decide), by rw [upd_upd]; exact q _ _ (Same.new hp) ⟨_, .dK upd_same, by decide⟩⟩
theorem ngA_nil : NgA tNil σ H 0 := fun H1 s Q q => q [] H1 (Same.refl _) rfl fun _ h => nomatch h
theorem ngA_cons (h : NgE te σ H) (hr : NgA ta σ H n) : NgA (tCons te ta) σ H (n + 1) := fun H1 s Q q => h H1 s _ fun v H2 s2 g => hr H2 (s.trans s2) _ fun vs H3 s3 hl gs =>
  q (v :: vs) H3 (s2.trans s3) (by rw [List.length_cons, hl]) fun u hu => by
    rcases List.mem_cons.mp hu with rfl | hu
    · exact g.same s3
    · exact gs u hu
theorem ngL (h : NgA ta σ H n) (hn : n ≤ 1000) {Q : VK} (q : ∀ p vs H2, Same H H2 → H p = none → H2 p = some (.lst vs) → vs.length = n → (∀ v ∈ vs, NG H2 v) → Q (.ref p) H2) : tLst ta σ H Q :=
  h H (Same.refl _) _ fun vs H2 s2 hl g => ⟨by rw [hl]; exact small_line (by omega), fun p hp => q p vs _ (s2.trans (Same.new hp)) (s2.free hp) upd_same hl fun v hv => (g v hv).same (Same.new hp)⟩
end
/-! ### any thing -/
def Thing (H : Hp) (x : V) : Prop := Sh x ∧ (∃ T, Kn H x T) ∧ ∀ l, x = .str (mkS l) → ∀ c ∈ l, c < 0x110000
theorem Thing.same {H H' : Hp} {v : V} (g : Thing H v) (s : Same H H') : Thing H' v := let ⟨h, ⟨T, k⟩, z⟩ := g; ⟨h, ⟨T, k.same s⟩, z⟩
theorem thing_str {H : Hp} {l : List Nat} (hl : l.length ≤ 1000) (hc : ∀ c ∈ l, c < 0x110000) : Thing H (.str (mkS l)) :=
  ⟨by show (mkS l).length ≤ 1000; rw [mkS_len]; exact hl, ⟨_, .str _⟩, fun m e c h => hc c (by injection e with e; rw [mkS_inj.mp e]; exact h)⟩
theorem NG.thing {H : Hp} {v : V} (g : NG H v) : Thing H v := by
  obtain ⟨T, k, h⟩ := g
  refine ⟨?_, ⟨T, k⟩, fun l e => ?_⟩
  · cases k <;> first | exact True.intro | exact absurd rfl h
  · subst e
    cases k
    exact absurd rfl h
def spThing : Sp := fun vs H Q _ => ∃ n : Int, vs = [.int n] ∧ ∀ x H', Same H H' → Thing H' x → Q x H'
def spSign1 : Sp := fun vs H Q _ => ∃ n : Int, vs = [.int n] ∧ ∀ c, c < 0x110000 → Q (.str (mkS [c])) H
def spLawWord : Sp := fun vs H Q _ => ∃ x, vs = [x] ∧ Thing H x ∧ ∀ H', Same H H' → Q (.bl (wordB x)) H'
/-- the law: true of each script; the table at T is held -/
def spLawT (K : PySem.W.Frag) (T : Addr) : Sp := fun vs H Q _ => ∃ (a : Addr) (ns : List Int), vs = [.ref a] ∧ SqL K H a (ns.map V.int) ∧ ns.length ≤ 63 ∧ Tb H T ∧ ∀ H', Tb H' T → Q (.bl true) H'
theorem Tb.same {H H' : Hp} {T : Addr} (h : Tb H T) (s : Same H H') : Tb H' T := s _ _ h
/-- "".join of texts of one sign -/
theorem join_ones (l : List Nat) : Txt.join (mkS []) (l.map fun c => mkS [c]) = mkS l := by
  have e : ∀ l : List Nat, TL.joinL [] (l.map fun c => [c]) = l := by
    intro l
    induction l with
    | nil => rfl
    | cons a r ih =>
      cases r with
      | nil => rfl
      | cons b r => exact congrArg (a :: ·) ih
  rw [TL.join_eq]
  refine TL.ext_tl ((TL.tl_join _ _).trans ?_)
  rw [List.map_map]
  exact (e l).trans (mkS_cps l).symm
theorem wd_small {l : List Nat} (h : Wd l) : ∀ c ∈ l, c < 0x110000 := fun c hc => by have := (h c hc).2; omega
/-- the signs that are no letters, as texts -/
def badV (l : List Nat) : List V := (l.filter fun c => !decide (c ∈ alpha)).map fun c => V.str (mkS [c])
theorem badV_nil (l : List Nat) : decide (badV l = []) = l.all fun c => decide (c ∈ alpha) := by
  rw [Bool.eq_iff_iff, decide_eq_true_iff]
  unfold badV
  rw [List.map_eq_nil_iff, List.filter_eq_nil_iff, List.all_eq_true]
  simp
theorem badV_snoc {l : List Nat} {i c : Nat} (h : l[i]? = some c) : badV (l.take (i + 1)) = badV (l.take i) ++ (if c ∈ alpha then [] else [V.str (mkS [c])]) := by
  unfold badV
  rw [List.take_succ, h]
  simp only [Option.toList_some, List.filter_append, List.map_append]
  by_cases hc : c ∈ alpha <;> simp [hc]
theorem badV_len {l : List Nat} {n : Nat} (h : l.length ≤ n) (i : Nat) : (badV (l.take i)).length ≤ n := by
  unfold badV
  rw [List.length_map]
  exact Nat.le_trans (List.length_filter_le _ _) (Nat.le_trans (by rw [List.length_take]; exact Nat.min_le_right _ _) h)
theorem badV_dat {K : PySem.W.Frag} {H : Hp} {l : List Nat} (h : ∀ c ∈ l, c < 0x110000) : ∀ v ∈ badV l, Dat K H v 20 := fun v hv => by
  obtain ⟨c, hc, rfl⟩ := List.mem_map.mp hv
  exact dat_str (strOk_small fun d hd => by rw [List.mem_singleton.mp hd]; exact h c (List.mem_filter.mp hc).1)
/-- a list of data is compared with the empty one -/
theorem eqD_nil {K : PySem.W.Frag} {H : Hp} {Q : VK} {p q : Addr} {xs : List V} (hp : SqL K H p xs) (hq : SqL K H q []) (h : ∀ v ∈ xs, Dat K H v 20) (r : Q (.bl (decide (xs = []))) H) : rEqD K (.ref p) (.ref q) H Q := by
  cases xs with
  | nil => exact eqD_same hp hq h r
  | cons x xs =>
    obtain ⟨ds, h1, h2, h3⟩ := dat_all h
    have sh : SeqAt.shaped (.list ds) = true := by
      unfold SeqAt.shaped
      rw [show PyData.canLay0 (.list ds) = true from h2, Bool.true_and, decide_eq_true_iff]
      simp only [PyData.depth]; omega
    refine ⟨.list ds, .list [], .lst hp h1, .lst hq .nil, sh, by decide +kernel, ?_⟩
    cases h1 with
    | cons a b =>
      rw [show PyData.eqv (.list _) (.list []) = decide (x :: xs = []) from by simp [PyData.eqv, PyData.eqvAll]]
      exact r
/-! ### the law's end -/
def spTab (sp : Sp) (T : Addr) : Sp := fun vs H Q E => H T = some (.tbl #[]) ∧ sp vs (upd H T (tabO T)) (fun v H' => Tb H' T ∧ ∀ H2, Q v H2) E
theorem lawAtT {l : PySem.W.OpenLaw} {w : World} {K : PySem.W.Frag} {mg : Str → Option Value} {fa : Addr} {h : Heap} {k : Nat} {p : He.Defn} {fd : FuncData} (t : TabAt K h p) (X : K.In h) (hb : ∀ (s : Shared) (v : Value), BindsTo s fd ⟨[v], []⟩ [("_law_script", v)])
    (F : ∀ base : Heap, K.In base → base.Ns mainGlobals mg → GxR.TabB base mg (He.cT K p).1 (He.cT K p).2 → FnOk l.prog w K mg base CX0 k fa fd ["_law_script"] (spTab (spLawT K (He.cT K p).2) (He.cT K p).2)) :
    LamX.LawAtS l w K CX0 k 63 "_law_script" mg fa h := by
  refine ⟨fd, [He.cT K p], spTab (spLawT K (He.cT K p).2) (He.cT K p).2, ?_, ?_, ?_, hb, fun H a ns hl _ hT hS => ?_, fun base kb gb tb => ?_⟩
  · intro q hq
    rw [List.mem_singleton.mp hq]; exact t.empty
  · intro q hq
    rw [List.mem_singleton.mp hq]; exact t.out
  · intro q hq
    rw [List.mem_singleton.mp hq]; exact PySem.W.codeHd_of_K X t.hd
  · have hT0 := hT _ (List.mem_singleton.mpr rfl)
    refine ⟨hT0, a, ns, rfl, ?_, hl, upd_same, fun H' hT' => ⟨hT', fun _ => rfl⟩⟩
    have off : ∀ u, H a = some u → (∀ q, u ≠ .tbl q) → upd H (He.cT K p).2 (tabO (He.cT K p).2) a = some u := fun u e q => by
      rw [upd_ne (fun z => by rw [z, hT0] at e; exact q _ (Option.some.inj e).symm)]; exact e
    rcases hS with (h1 | ⟨o, h1⟩) | h1
    · exact .inl (.inl (off _ h1 fun _ z => nomatch z))
    · exact .inl (.inr ⟨o, off _ h1 fun _ z => nomatch z⟩)
    · exact .inr h1
  · have tb0 := tb _ (List.mem_singleton.mpr rfl)
    exact F base kb gb ⟨tb0.code, tb0.bm, tb0.gP⟩
theorem codeAt_says {fa : List He.Fa} {fn : List He.DefD} {K : PySem.W.Frag} {h : Heap} {mg : Str → Option Value} (X : K.In h) (G : h.Ns mainGlobals mg) (c : He.SaysD fa fn K) (i j : Nat) {x : Str} {st : Stmt}
    (hi : fn[i]? = some (dOf x st)) (hj : fa[j]? = some (.glo x)) : CodeAt K mg x (He.cT K (x, none)).1 := by
  obtain ⟨fd, F⟩ := c.def_ i hi
  intro f oc od fd' osl hf lk
  have hm := He.glo_ok X G (c.fact j hj)
  rw [hm] at hf
  injection hf with hf
  injection hf with hf
  subst hf
  obtain ⟨oc2, od2, dV, kV, doc, pm, an, cdv, ct, osl2, e2, lk2, hcd, _, _⟩ := F.ex
  have lk3 : K.lookup (He.fAd K (x, none)) = some ⟨oc, od, .func fd', osl⟩ := lk
  obtain ⟨cc, hcc⟩ := He.codeIn_ref hcd
  have lk2' : K.lookup (He.fAd K (x, none)) = some ⟨oc2, od2, .func fd, osl2⟩ := lk2
  rw [lk3] at lk2'
  injection lk2' with z
  injection z with _ _ z _
  injection z with z
  subst z
  have e : fd'.code = .ref cc := by rw [e2]; exact hcc
  rw [e]
  exact congrArg Value.ref (He.codeOf_eq lk3 e).symm
end N0

/-! B14: two words of a law; rows of a table. -/
namespace N0
open PySem PySem.Spec PyProof.Rows L2
def spBent : Sp := fun vs H Q _ => ∃ (m n : Int) (l : List Nat), vs = [.int m, .str (mkS l), .int n] ∧ Wd l ∧ l.length ≤ 24 ∧ ∀ l' H', Wd l' → l'.length ≤ 24 → Same H H' → Q (.str (mkS l')) H'
def spTwo (K : PySem.W.Frag) : Sp := fun vs H Q _ => ∃ (a : Addr) (ns : List Int), vs = [.ref a] ∧ SqL K H a (ns.map V.int) ∧ ∀ l r p H', Wd l → Wd r → l.length ≤ 24 → r.length ≤ 24 → Same H H' → H' p = some (.tup [.str (mkS l), .str (mkS r)]) → Q (.ref p) H'
/-! ### rows of a table -/
def rowV (rs : List Nat) : List V := rs.map fun n => V.int (n : Nat)
theorem rowV_get {rs : List Nat} {i n : Nat} (h : rs[i]? = some n) : (rowV rs)[i]? = some (.int (n : Nat)) := by unfold rowV; rw [List.getElem?_map, h]; rfl
theorem rowV_len (rs : List Nat) : (rowV rs).length = rs.length := by simp [rowV]
theorem Same.wr {H H' : Hp} {D : Addr} {o : HO} (s : Same H H') (h : H D = none) : Same H (upd H' D o) := fun x u e => by
  rw [upd_ne (ne_of_none e h)]; exact s x u e
def qMin3 : List V → Hp → VK → Prop := fun xs H Q => ∃ a b c : Nat, xs = [.int a, .int b, .int c] ∧ Q (.int ((min a (min b c) : Nat))) H
theorem min2_nat (a b : Nat) : nuMin2 (.int a) (.int b) = some (.int ((min a b : Nat))) := by
  show (some (decide ((b : Int) < (a : Int)))).map _ = _
  by_cases h : (b : Int) < (a : Int)
  · rw [decide_eq_true h, show min a b = b by omega]; rfl
  · rw [decide_eq_false h, show min a b = a by omega]; rfl
theorem c_min3 {X : Cx} (hc : X.calm = true) : CallR X (.builtin "min") qMin3 := fun pins s σ H xs us Q I r ⟨a, b, c, e, q⟩ =>
  call_min3Nu hc pins s σ H xs us Q I r ⟨_, _, _, .int ((min a (min b c) : Nat)), e, by
    unfold nuMin3
    rw [min2_nat]
    exact (min2_nat _ _).trans (by rw [show min (min a b) c = min a (min b c) by omega]), q⟩
theorem g_min3 {a b c : Nat} {x y z : Int} {H : Hp} {Q : VK} (h1 : x = a) (h2 : y = b) (h3 : z = c) (q : Q (.int ((min a (min b c) : Nat))) H) : qMin3 [.int x, .int y, .int z] H Q := ⟨a, b, c, by rw [h1, h2, h3], q⟩
/-- the row behind one letter more -/
def spNext (K : PySem.W.Frag) : Sp := fun vs H Q _ => ∃ (a : Addr) (p b : List Nat) (c : Nat), vs = [.ref a, .str (mkS [c]), .str (mkS b)] ∧ SqL K H a (rowV (Lv.row p b)) ∧ b.length ≤ 1000 ∧
  ∀ D H', Same H H' → H D = none → H' D = some (.lst (rowV (Lv.row (p ++ [c]) b))) → Q (.ref D) H'
/-- the distance -/
def spFar : Sp := fun vs H Q _ => ∃ l r : List Nat, vs = [.str (mkS l), .str (mkS r)] ∧ l.length ≤ 1000 ∧ r.length ≤ 1000 ∧ ∀ H', Same H H' → Q (.int ((Lv.lev l r : Nat))) H'
theorem row_first (p b : List Nat) (c : Nat) : (Lv.row (p ++ [c]) b).take 1 = [p.length + 1] := by
  have h := Lv.row_get (p := p ++ [c]) (b := b) (j := 0) (by omega)
  rw [List.take_zero, Lv.lev_nil_right, List.length_append] at h
  rw [List.take_succ, h]
  rfl
theorem row_zero (p b : List Nat) : (Lv.row p b)[0]? = some p.length := by
  rw [Lv.row_get (by omega), List.take_zero, Lv.lev_nil_right]
theorem row_step {p b : List Nat} {c i y : Nat} (hy : b[i]? = some y) : (Lv.row (p ++ [c]) b).take (i + 2) = (Lv.row (p ++ [c]) b).take (i + 1) ++ [min (Lv.lev p (b.take i) + if y = c then 0 else 1) (min (Lv.lev p (b.take (i + 1)) + 1) (Lv.lev (p ++ [c]) (b.take i) + 1))] := by
  have hi : i < b.length := (List.getElem?_eq_some_iff.mp hy).1
  rw [List.take_succ, Lv.row_get (by omega), ← Lv.lev_take hy]
  rfl
theorem row_last (p b : List Nat) : rowV (Lv.row p b) = rowV ((Lv.row p b).take b.length) ++ [V.int ((Lv.lev p b : Nat))] := by
  have e : Lv.row p b = (Lv.row p b).take (b.length + 1) := (List.take_of_length_le (by rw [Lv.row_len]; omega)).symm
  have h := Lv.row_get (p := p) (b := b) (j := b.length) (Nat.le_refl _)
  rw [List.take_length] at h
  conv => lhs; rw [e, List.take_succ, h]
  simp [rowV]
theorem rg_row (b : List Nat) : rgV 0 ((b.length : Int) + 1) = rowV (Lv.row [] b) := by
  rw [Lv.row_nil]
  unfold rgV rowV
  rw [show (((b.length : Int) + 1) - 0).toNat = b.length + 1 by omega]
  exact List.map_congr_left fun i _ => by rw [Int.zero_add]
section
variable {σ : L2.St} {H : Hp} {te ta : TE} {tb : TS} {nx bk ct : L2.St → Hp → Prop} {rt Q : VK} {i j : Nat}
theorem g_listRg (h : te σ H fun x H1 => ∃ n, x = .int n ∧ RgOk 0 n ∧ ∀ q, H1 q = none → Q (.ref q) (upd H1 q (.lst (rgV 0 n)))) : tLstRg (tRg1 te) σ H Q := h
/-- for, sign by sign -/
theorem g_txt {l : List Nat} (h : σ[i]? = some (some (.str (mkS l)))) (Pv : Nat → L2.St → Hp → Prop) (p0 : Pv 0 σ H)
    (hs : ∀ (i : Nat) c σ' H', l[i]? = some c → Pv i σ' H' → tb (Ends.mk (Pv (i + 1)) rt nx (Pv (i + 1))) (σ'.set j (some (.str (mkS [c])))) H') (hd : ∀ σ' H', Pv l.length σ' H' → nx σ' H') :
    iStr (tVar i) σ H (kFor (gName j) tb (Ends.mk nx rt bk ct) σ) := by
  have e : (mkS l).cps.size = l.length := by simp [mkS]
  refine g_iStr h (for_it walk_str Pv p0 (fun _ _ _ _ _ => trivial) (fun i x σ' H1 H' hi p y => ?_) (by rw [e]; exact hd))
  obtain ⟨e1, c, hc, e2⟩ := y
  subst e1 e2
  exact hs i c σ' _ (its_at hc) p
end
/-! ### changes in a row, told by the law -/
def spLawLed : Sp := fun vs H Q _ => ∃ (l : List Nat) (p : Addr) (xs : List V) (os : List (Option (List V))), vs = [.str (mkS l), .ref p] ∧ l.length ≤ 200 ∧ xs.length ≤ 200 ∧ H p = some (.lst xs) ∧ xs.length = os.length ∧
  (∀ (i : Nat) x o, xs[i]? = some x → os[i]? = some o → Cg H x o) ∧ Q (optV (ledR l os)) H
theorem ledR_next {l m : List Nat} {os : List (Option (List V))} {i : Nat} {o : Option (List V)} (h : ledR l (os.take i) = some m) (ho : os[i]? = some o) : ledR l (os.take (i + 1)) = stepR m o := by
  rw [List.take_succ, ho, ledR_app, h]
  exact ledR_one m o
theorem ledR_stop {l m : List Nat} {os : List (Option (List V))} {i : Nat} {o : Option (List V)} (h : ledR l (os.take i) = some m) (ho : os[i]? = some o) (hs : stepR m o = none) : ledR l os = none := by
  rw [← List.take_append_drop (i + 1) os, ledR_app, ledR_next h ho, hs]
  rfl
/-! ### a promise that lets nothing out -/
theorem Dd.quiet {P : Program} {w : World} {K : PySem.W.Frag} {mg : Str → Option Value} {base : Heap} {k : Nat} {x : Str} {ps : List Str} {sp : Sp} (D : Dd P w K mg base (L2.CX P w) k x ps sp) (h : ∀ vs H Q E, sp vs H Q E → sp vs H Q E0) : Dd P w K mg base CX0 k x ps sp := by
  obtain ⟨f, fd, hm, hk, hb, F, he⟩ := D.ex
  refine ⟨f, fd, hm, hk, hb, ⟨F.len, fun A outer s H args us vs Q E hr e0 ha hv hs => codeAny_mono (F.run A outer s H args us vs Q E0 hr e0 ha hv (h _ _ _ _ hs)) fun r s' hq => ?_⟩, he⟩
  cases r with
  | error e =>
    obtain ⟨_, _, _, _, _, _, _, _, _, _, _, _, z⟩ := hq
    exact z
  | ok fl => cases fl <;> exact hq
/-- distance, way, of words; the table at T is held -/
def spDist (T : Addr) : Sp := fun vs H Q _ => ∃ l r : List Nat, vs = [.str (mkS l), .str (mkS r)] ∧ Wd l ∧ Wd r ∧ l.length ≤ 24 ∧ r.length ≤ 24 ∧ Tb H T ∧ ∀ H', Same H H' → Q (.int ((Lv.lev l r : Nat))) H'
def spWay (T : Addr) : Sp := fun vs H Q _ => ∃ l r : List Nat, vs = [.str (mkS l), .str (mkS r)] ∧ Wd l ∧ Wd r ∧ l.length ≤ 24 ∧ r.length ≤ 24 ∧ Tb H T ∧
  ∀ p xs os H', Same H H' → H p = none → H' p = some (.lst xs) → xs.length = os.length → (∀ (i : Nat) x o, xs[i]? = some x → os[i]? = some o → Cg H' x o) → ledR l os = some r → os.length = Lv.lev l r → Q (.ref p) H'
theorem g_BM0 {σ : L2.St} {H : Hp} {K : PySem.W.Frag} {T : String} {r : V → List V → Hp → VK → Prop} {t : TE} {Q : VK} (h : t σ H fun x H1 => tyV K T x H1 ∧ r x [] H1 Q) : tBM0 K T r t σ H Q := h
end N0

/-! B15: a text from behind. -/
namespace N0
open PySem PySem.Spec PyProof.Rows L2
theorem rev_picked (l : List Nat) : ((List.range l.length).map fun k => l.length - 1 - k).filterMap ((mkS l).cps[·]?) = l.reverse := by
  have e : (mkS l).cps.size = l.length := by simp [mkS]
  rw [filterMap_get _ _ fun i hi => ?_, List.map_map]
  · refine List.ext_getElem (by simp) fun i h1 h2 => ?_
    have hi : i < l.length := by simpa using h1
    have hk : l.length - 1 - i < l.length := by omega
    simp only [List.getElem_map, List.getElem_range, List.getElem_reverse, Function.comp, mkS]
    simp [Array.getD, hk]
  · obtain ⟨k, hk, rfl⟩ := List.mem_map.mp hi
    have := List.mem_range.mp hk
    rw [e]; omega
theorem rev_made (l : List Nat) (t u : Tok) : sliceMade (mkS l) t none none (some (-1, u)) = .str (mkS l.reverse) := by
  unfold sliceMade
  rw [if_neg (by show ¬ (((-1 : Int) == 1 && _) = true); rw [show ((-1 : Int) == 1) = false from rfl, Bool.false_and]; exact Bool.false_ne_true)]
  show Made.str ⟨((Builtin.Str.strSliceIndices none none (-1) (mkS l).length).filterMap ((mkS l).cps[·]?)).toArray⟩ = _
  rw [picked_rev, mkS_len, rev_picked]
  rfl
def tRevS (te : TE) : TE := fun σ H Q => te σ H fun x H1 => ∃ l, x = .str (mkS l) ∧ l.length ≤ 100000 ∧ Q (.str (mkS l.reverse)) H1
theorem g_revS {σ : L2.St} {H : Hp} {te : TE} {Q : VK} (h : te σ H fun x H1 => ∃ l, x = .str (mkS l) ∧ l.length ≤ 100000 ∧ Q (.str (mkS l.reverse)) H1) : tRevS te σ H Q := h
theorem pe_revS {X : Cx} {e : Expr} {te : TE} {k : Nat} {p1 p2 p3 pos : Pos} (he : PE X e te) : PE X (.Subscript e (.Slice none none (some (.UnaryOp .USub (.Constant (.int 1) k p1) p2)) p3) pos) (tRevS te) :=
  ⟨fun pins s σ H Q I h => Subscript_ (thn (he.run pins s σ H _ I h) fun v s1 ⟨x, H1, J1, rx, l, ex, hl, q⟩ => by
    subst ex
    obtain ⟨t, rfl⟩ := (show ∃ t, v = Value.str (mkS l) t from rx)
    have part : PO X (some (.UnaryOp .USub (.Constant (.int 1) k p1) p2)) (tPart (tUn (rU fun i => .int (-i)) (tC (.int 1)))) := po_some (pe_un un_neg pe_int)
    refine wpAny_Slice (thn (po_none.run pins s1 σ H1 (fun o H2 => o = none ∧ H2 = H1) J1 ⟨rfl, rfl⟩) fun v1 s2 ⟨o1, H2, J2, b1, e1, w1⟩ => ?_)
    subst e1 w1
    refine thn (po_none.run pins s2 σ H2 (fun o H3 => o = none ∧ H3 = H2) J2 ⟨rfl, rfl⟩) fun v2 s3 ⟨o2, H3, J3, b2, e2, w2⟩ => ?_
    subst e2 w2
    refine thn (part.run pins s3 σ H3 (fun o H4 => o = some (-1) ∧ H4 = H3) J3 ⟨1, rfl, -1, rfl, rfl, rfl⟩) fun v3 s4 ⟨o3, H4, J4, b3, e3, w3⟩ => ?_
    subst e3 w3
    obtain ⟨m1, rfl, z1⟩ := IsPart.raw b1
    obtain ⟨m2, rfl, z2⟩ := IsPart.raw b2
    obtain ⟨m3, rfl, z3⟩ := IsPart.raw b3
    have J5 : Inv X pins σ H4 { s4 with heap := s4.heap.push { cls := .type "slice", data := .fields #[partValue m1, partValue m2, partValue m3] } } := J4.kept (t' := s4.toks) fun b ob q => Heap.get?_push_of_some _ q
    obtain rfl : m1 = none := by cases m1 with | none => rfl | some a => cases z1
    obtain rfl : m2 = none := by cases m2 with | none => rfl | some a => cases z2
    obtain ⟨u, rfl⟩ : ∃ u, m3 = some (-1, u) := by
      cases m3 with
      | none => cases z3
      | some a => obtain ⟨i, u⟩ := a; exact ⟨u, by injection z3 with z3; rw [show i = -1 from z3]⟩
    show wpAny _ _ (subscriptTail e (.Slice none none (some (.UnaryOp .USub (.Constant (.int 1) k p1) p2)) p3) (.str (mkS l) t) (.ref s4.heap.objs.size)) _ _ { s4 with heap := s4.heap.push { cls := .type "slice", data := .fields #[partValue none, partValue none, partValue (some (-1, u))] } }
    refine tail_any (ops := [.str (mkS l) t, .ref s4.heap.objs.size]) (typeIs_str _ _ _) F.slot_str_getitem.lookup (wpAny_getItem_str_slice (l := none) (u := none) (st := some (-1, u)) ⟨_, Heap.get?_push_size _ rfl, rfl, rfl⟩ rfl ?_) (by with_unfolding_all rfl)
    rw [rev_made]
    exact ⟨by show (mkS l.reverse).length ≤ sizeLine; rw [mkS_len, List.length_reverse]; exact small_line hl, .str _, H4, J5.tok _, ⟨_, rfl⟩, q⟩)⟩
/-! ### min of a list of whole numbers, with what is told of an empty one -/
def minOr (d : Int) : List Int → Int
  | [] => d
  | n :: r => r.foldl min n
def qMinD (K : PySem.W.Frag) : List V → List V → Hp → VK → Prop := fun xs zs H Q => ∃ (p : Addr) (ns : List Int) (d : Int), xs = [.ref p] ∧ zs = [.int d] ∧ SqL K H p (ns.map V.int) ∧ Q (.int (minOr d ns)) H
theorem dpAll_ints {K : PySem.W.Frag} {H : Hp} : ∀ ns : List Int, DpAll K H (ns.map V.int) (ns.map PyData.int)
  | [] => .nil
  | n :: r => .cons (.int n) (dpAll_ints r)
theorem depth_ints : ∀ ns : List Int, PyData.depthAll (ns.map PyData.int) ≤ 1
  | [] => by simp [PyData.depthAll]
  | n :: r => by have := depth_ints r; simp only [List.map_cons, PyData.depthAll, PyData.depth]; omega
theorem c_minD {X : Cx} (hc : X.calm = true) (hu : X.A.units + 64 < cLine) : CallRK X (.builtin "min") [Str.ofString "default"] (qMinD X.K) := by
  intro pins s σ H xs zs us ws Q I r rz h
  obtain ⟨p, ns, d, rfl, rfl, hs, q⟩ := h
  obtain rfl := Vals.ref1 r
  obtain ⟨w1, rfl, t, rfl⟩ := vals1 rz
  obtain ⟨its, rv, hl, _⟩ := I.list hs
  obtain ⟨as, ra⟩ := Dp.readsAll I (ns.map PyData.int) (ns.map V.int) its (dpAll_ints ns) rv
  have dep := depth_ints ns
  refine PySem.W.min_list_default (I.ok.hd hc) hl.isList (by simpa using ra) ?_ (by omega) (fun e h' tk k => ?_) (fun y ys i v h' tk bs e hv rd k => ?_)
  · refine ⟨fun x hx y hy => ?_, fun x hx e => ?_⟩
    · obtain ⟨a, _, rfl⟩ := List.mem_map.mp hx
      obtain ⟨b, _, rfl⟩ := List.mem_map.mp hy
      rfl
    · obtain ⟨a, _, rfl⟩ := List.mem_map.mp hx
      cases e
  · obtain rfl := List.map_eq_nil_iff.mp e
    exact ⟨.int d, H, I.kept k, ⟨t, rfl⟩, q⟩
  · cases ns with
    | nil => cases e
    | cons n m =>
      injection e with e1 e2
      subst e1 e2
      rw [PySem.W.minD_ints] at rd
      cases rd
      exact ⟨.int _, H, I.kept k, ⟨_, rfl⟩, q⟩
theorem g_minD {K : PySem.W.Frag} {H : Hp} {Q : VK} {p : Addr} {ns : List Int} {d : Int} (hs : SqL K H p (ns.map V.int)) (q : Q (.int (minOr d ns)) H) : qMinD K [.ref p] [.int d] H Q := ⟨p, ns, d, rfl, rfl, hs, q⟩
/-! ### the table of two words -/
/-- the list at p holds lists: the rows of the beginnings of l -/
structure TabV (H : Hp) (p : Addr) (qs : List Addr) (l r : List Nat) : Prop where
  top : H p = some (.lst (qs.map V.ref))
  len : qs.length = l.length + 1
  rows : ∀ (i : Nat) q, qs[i]? = some q → H q = some (.lst (rowV (Lv.row (l.take i) r)))
theorem TabV.same {H H' : Hp} {p : Addr} {qs : List Addr} {l r : List Nat} (t : TabV H p qs l r) (s : Same H H') : TabV H' p qs l r := ⟨s _ _ t.top, t.len, fun i q h => s _ _ (t.rows i q h)⟩
theorem TabV.at {H : Hp} {p : Addr} {qs : List Addr} {l r : List Nat} (t : TabV H p qs l r) {i : Nat} (h : i ≤ l.length) : ∃ q, qs[i]? = some q ∧ (qs.map V.ref)[i]? = some (.ref q) ∧ H q = some (.lst (rowV (Lv.row (l.take i) r))) := by
  have hi : i < qs.length := by rw [t.len]; omega
  exact ⟨qs[i], List.getElem?_eq_getElem hi, by rw [List.getElem?_map, List.getElem?_eq_getElem hi]; rfl, t.rows i _ (List.getElem?_eq_getElem hi)⟩
theorem row_at {l r : List Nat} {i j : Nat} (h : j ≤ r.length) : (rowV (Lv.row (l.take i) r))[j]? = some (.int ((Lv.lev (l.take i) (r.take j) : Nat))) := rowV_get (Lv.row_get h)
/-- the numbers of which a cell is the least -/
def cands (l r : List Nat) (i j : Nat) : List Int :=
  (if 0 < i then [((Lv.lev (l.take (i - 1)) (r.take j) : Nat) : Int) + 1] else []) ++ (if 0 < j then [((Lv.lev (l.take i) (r.take (j - 1)) : Nat) : Int) + 1] else []) ++
  (if 0 < i ∧ 0 < j then [((Lv.lev (l.take (i - 1)) (r.take (j - 1)) : Nat) : Int) + (if l[i - 1]? = r[j - 1]? then 0 else 1)] else [])
theorem cands_min {l r : List Nat} {i j : Nat} (hi : i ≤ l.length) (hj : j ≤ r.length) : minOr 0 (cands l r i j) = ((Lv.lev (l.take i) (r.take j) : Nat) : Int) := by
  rcases i with _ | i
  · rcases j with _ | j
    · simp [cands, minOr, Lv.lev_nil_left]
    · simp [cands, minOr, Lv.lev_nil_left, Nat.min_eq_left (show j ≤ r.length by omega), Nat.min_eq_left hj]
  · rcases j with _ | j
    · simp [cands, minOr, Lv.lev_nil_right, Nat.min_eq_left (show i ≤ l.length by omega), Nat.min_eq_left hi]
    · have hx : l[i]? = some l[i] := List.getElem?_eq_getElem (by omega)
      have hy : r[j]? = some r[j] := List.getElem?_eq_getElem (by omega)
      have e : l.take (i + 1) = l.take i ++ [l[i]] := by rw [List.take_succ, hx]; rfl
      have t := Lv.lev_take (p := l.take i) (x := l[i]) hy
      rw [← e] at t
      simp only [cands, minOr, Nat.zero_lt_succ, if_true, and_self, Nat.add_sub_cancel, List.cons_append, List.nil_append, List.foldl_cons, List.foldl_nil, hx, hy, Option.some.injEq]
      rw [t]
      by_cases c : l[i] = r[j]
      · rw [if_pos c, if_pos c.symm]
        omega
      · rw [if_neg c, if_neg (fun z => c z.symm)]; omega
def spCell : Sp := fun vs H Q _ => ∃ (p : Addr) (qs : List Addr) (l r : List Nat) (i j : Nat), vs = [.ref p, .str (mkS l), .str (mkS r), .int (i : Nat), .int (j : Nat)] ∧ TabV H p qs l r ∧ i ≤ l.length ∧ j ≤ r.length ∧ l.length ≤ 1000 ∧ r.length ≤ 1000 ∧
  ∀ H', Same H H' → Q (.int ((Lv.lev (l.take i) (r.take j) : Nat))) H'
theorem g_CKw {σ : L2.St} {H : Hp} {Q : VK} {r : List V → List V → Hp → VK → Prop} {t tk : TA} (h : t σ H fun vs H1 => tk σ H1 fun zs H2 => r vs zs H2 Q) : tCKw r t tk σ H Q := h
def spTable (T : Addr) : Sp := fun vs H Q _ => ∃ l r : List Nat, vs = [.str (mkS l), .str (mkS r)] ∧ Wd l ∧ Wd r ∧ l.length ≤ 24 ∧ r.length ≤ 24 ∧ Tb H T ∧
  ∀ p qs H', Same H H' → H p = none → (∀ q ∈ qs, H q = none ∧ q ≠ p) → TabV H' p qs l r → Q (.ref p) H'
theorem dpAll_of {K : PySem.W.Frag} {H : Hp} : ∀ {vs : List V} {ds : List PyData}, vs.length = ds.length → (∀ (i : Nat) v d, vs[i]? = some v → ds[i]? = some d → Dp K H v d) → DpAll K H vs ds
  | [], [], _, _ => .nil
  | [], _ :: _, h, _ => by cases h
  | _ :: _, [], h, _ => by cases h
  | v :: vs, d :: ds, h, g => .cons (g 0 v d rfl rfl) (dpAll_of (Nat.succ.inj h) fun i v d a b => g (i + 1) v d a b)
/-- the table as data -/
def tabD (l r : List Nat) : List PyData := (List.range (l.length + 1)).map fun i => .list ((Lv.row (l.take i) r).map fun n => PyData.int (n : Nat))
theorem tabD_at {l r : List Nat} {i : Nat} {d : PyData} (h : (tabD l r)[i]? = some d) : d = .list ((Lv.row (l.take i) r).map fun n => PyData.int (n : Nat)) := by
  unfold tabD at h
  rw [List.getElem?_map] at h
  cases e : (List.range (l.length + 1))[i]? with
  | none => rw [e] at h; cases h
  | some k =>
    obtain ⟨hk, ek⟩ := List.getElem?_eq_some_iff.mp e
    rw [List.getElem_range] at ek
    subst ek
    rw [e] at h
    injection h with h
    exact h.symm
theorem TabV.dp {K : PySem.W.Frag} {H : Hp} {p : Addr} {qs : List Addr} {l r : List Nat} (t : TabV H p qs l r) : Dp K H (.ref p) (.list (tabD l r)) := by
  refine .lst (SqL.of t.top) (dpAll_of (by rw [List.length_map, t.len]; simp [tabD]) fun i v d hv hd => ?_)
  rw [tabD_at hd]
  rw [List.getElem?_map] at hv
  cases e : qs[i]? with
  | none => rw [e] at hv; cases hv
  | some q =>
    rw [e] at hv
    injection hv with hv
    subst hv
    have z := dpAll_ints (K := K) (H := H) ((Lv.row (l.take i) r).map fun n => ((n : Nat) : Int))
    rw [List.map_map, List.map_map] at z
    exact .lst (SqL.of (t.rows i q e)) z
theorem canAll_ints : ∀ ns : List Nat, PyData.canLayAll0 (ns.map fun n => PyData.int (n : Nat)) = true
  | [] => rfl
  | n :: r => by
    show (PyData.canLay0 (.int (n : Nat)) && PyData.canLayAll0 (r.map fun n => PyData.int (n : Nat))) = true
    rw [canAll_ints r]; simp [PyData.canLay0]
theorem canAll_rows {f : Nat → List Nat} : ∀ is : List Nat, PyData.canLayAll0 (is.map fun i => PyData.list ((f i).map fun n => PyData.int (n : Nat))) = true
  | [] => rfl
  | i :: r => by
    show (PyData.canLayAll0 ((f i).map fun n => PyData.int (n : Nat)) && PyData.canLayAll0 (r.map fun i => PyData.list ((f i).map fun n => PyData.int (n : Nat)))) = true
    rw [canAll_ints, canAll_rows r]; rfl
theorem depth_rows {f : Nat → List Nat} : ∀ is : List Nat, PyData.depthAll (is.map fun i => PyData.list ((f i).map fun n => PyData.int (n : Nat))) ≤ 4
  | [] => by simp [PyData.depthAll]
  | i :: r => by
    have h1 := depth_rows (f := f) r
    have h2 := depth_ints ((f i).map fun n => ((n : Nat) : Int))
    rw [List.map_map] at h2
    have h3 : PyData.depthAll ((f i).map fun n => PyData.int (n : Nat)) ≤ 1 := h2
    simp only [List.map_cons, PyData.depthAll, PyData.depth]; omega
theorem tab_same {K : PySem.W.Frag} {H : Hp} {p p' : Addr} {qs qs' : List Addr} {l r : List Nat} {Q : VK} (t : TabV H p qs l r) (t' : TabV H p' qs' l r) (q : Q (.bl true) H) : rEqD K (.ref p) (.ref p') H Q := by
  have c : PyData.canLay0 (.list (tabD l r)) = true := canAll_rows (f := fun i => Lv.row (l.take i) r) (List.range (l.length + 1))
  have dep := depth_rows (f := fun i => Lv.row (l.take i) r) (List.range (l.length + 1))
  have sh : SeqAt.shaped (.list (tabD l r)) = true := by
    unfold SeqAt.shaped
    rw [c, Bool.true_and, decide_eq_true_iff]
    have : PyData.depthAll (tabD l r) ≤ 4 := dep
    simp only [PyData.depth]; omega
  refine ⟨_, _, t.dp, t'.dp, sh, sh, ?_⟩
  rw [SeqAt.eqv_refl _ c]; exact q
end N0

/-! B16: enumerate of a text. -/
namespace N0
open PySem PySem.Spec PyProof.Rows L2
/-- enumerate(text): each sign with its number in a new pair -/
def Ites (x : Str) : It :=
  ⟨fun i _ => i < x.cps.size, fun i H v H' => ∃ T c, v = .ref T ∧ H T = none ∧ H' = upd H T (.tup [.int (i : Nat), .str ⟨#[c]⟩]) ∧ x.cps[i]? = some c, fun i _ => x.cps.size ≤ i⟩
theorem draws_str {prog : Program} {w : World} {A : Around} (hh : A.handled = none) (it : Addr) (x : Str) (t : Tok) (ty : String) (hty : ty = "str_ascii_iterator" ∨ ty = "str_iterator") :
    Draws prog w A it [it] x.cps.size (fun i v => ∃ c u, x.cps[i]? = some c ∧ v = .str ⟨#[c]⟩ u) (fun i h => h.IsStrIter it ty x t i) := by
  rcases hty with e | e
  · rw [e]; exact Draws.strAscii hh it x t
  · rw [e]; exact Draws.strWide hh it x t
theorem turn_enumS {P : Program} {w : World} {K : PySem.W.Frag} {elts : List Expr} {kk : Nat} {tpos : Pos} (x : Str) (t : Tok) (ty : String) (hty : ty = "str_ascii_iterator" ∨ ty = "str_iterator") (e it : Addr) (hne : e ≠ it) :
    Turn P w K (.Tuple elts kk tpos) (Ites x) [e, it] e (fun i h => (∃ old, IsEnum h e it ((i : Nat) : Int) old) ∧ h.IsStrIter it ty x t i) where
  mem := by simp
  obj := fun i h st b hb => by
    obtain ⟨⟨old, he⟩, ⟨o, ho, hc, hd⟩⟩ := st
    have e' : b = e ∨ b = it := by simpa using hb
    rcases e' with z | z
    · rw [z]; exact ⟨_, he, fun v q => nomatch q⟩
    · rw [z]; exact ⟨o, ho, fun v q => by rw [hd] at q; cases q⟩
  keep := fun i h h' st k => let ⟨⟨old, he⟩, o, ho, r⟩ := st; ⟨⟨old, k e (by simp) _ he⟩, o, k it (by simp) o ho, r⟩
  item := by
    intro X hP hw hK hc i pins s σ H E I hf st hg
    subst hP hw hK
    obtain ⟨⟨old, he⟩, hit⟩ := st
    have hel : e < s.heap.objs.size := Heap.lt_size he
    have hil : it < s.heap.objs.size := by obtain ⟨_, q, _⟩ := hit; exact Heap.lt_size q
    have DD : Draws X.prog X.w X.A.in1 it [it] x.cps.size (fun i v => ∃ c u, x.cps[i]? = some c ∧ v = .str ⟨#[c]⟩ u) (fun i h => h.IsStrIter it ty x t i) := draws_str (A := X.A.in1) (show X.A.in1.handled = none from I.ok.hd hc) it x t ty hty
    refine wpAny_pyNext_enum_itemD DD he hit hg hne (fun z => hne (by simpa using z)) fun y h' tk hy ho hit' hT hsz hk => ?_
    obtain ⟨c, u, hcx, rfl⟩ := hy
    refine ⟨_, rfl, wpAny_letOwnedTupleGo_enum (s := { s with heap := h', toks := tk + 1 }) ho fun h'' he' sb => ?_⟩
    have hT2 : h''.get? s.heap.objs.size = some { cls := .type "tuple", data := .seq #[.int i tk, .str ⟨#[c]⟩ u] } := (sb.2 _ (Nat.ne_of_gt hel)).trans hT
    have new : ObjOk X.prog X.w (upd H s.heap.objs.size (.tup [.int (i : Nat), .str ⟨#[c]⟩])) h'' s.heap.objs.size (.tup [.int (i : Nat), .str ⟨#[c]⟩]) :=
      ⟨by show 2 ≤ sizeLine; decide, [.int i tk, .str ⟨#[c]⟩ u], .cons ⟨_, rfl⟩ (.cons ⟨_, rfl⟩ .nil), ⟨_, hT2, rfl, _, rfl⟩⟩
    have I1 : Inv X pins σ (upd H s.heap.objs.size (.tup [.int (i : Nat), .str ⟨#[c]⟩])) { s with heap := h'', toks := tk + 1 } :=
      I.turnedNew (ch := [e, it]) (fun b ob hb q => (sb.2 b (fun z => hb (by simp [z]))).trans (hk b ob (fun z => hb (by simp [z])) (fun z => hb (by simp [z])) q)) hf (Nat.le_refl _) new
    refine ⟨.ref s.heap.objs.size, _, I1, rfl, ⟨_, c, rfl, I.hok.fresh (Nat.le_refl _), rfl, hcx⟩, ⟨⟨.str ⟨#[c]⟩ u, ?_⟩, ?_⟩, fun b hb => ?_⟩
    · have e1 : ((i + 1 : Nat) : Int) = (i : Int) + 1 := by omega
      rw [e1]; exact he'
    · obtain ⟨o, ho1, r⟩ := hit'
      exact ⟨o, (sb.2 it (Ne.symm hne)).trans ho1, r⟩
    · have hb' : b < s.heap.objs.size := by
        have e' : b = e ∨ b = it := by simpa using hb
        rcases e' with z | z
        · rw [z]; exact hel
        · rw [z]; exact hil
      rw [upd_ne (Nat.ne_of_lt hb')]
      exact (hf b hb).1
  done := by
    intro X hP hw hK hc i pins s σ H E I hf st hg
    subst hP hw hK
    obtain ⟨⟨old, he⟩, hit⟩ := st
    obtain ⟨f0, f1, f2, f3, f4, f5⟩ := hf it (by simp)
    have hx : x.cps[i]? = none := Array.getElem?_eq_none hg
    have hT : s.TypeIs (.ref e) "enumerate" := ⟨_, he, rfl⟩
    have D : ∀ {Q : Value → Shared → Prop} {E : Value → Shared → Prop}, (∀ h' y, Heap.ExtBut it s.heap h' → (∃ o, h'.get? y = some o ∧ o.cls = .type "StopIteration") → E (.ref y) { s with heap := h' }) → wpAny (model X.prog X.w) X.A.in1 (Builtin.SmallTypes.nextOf (.ref it)) Q E s := by
      intro Q E hE
      rcases hty with z | z
      · rw [z] at hit; exact wpAny_nextOf_ascii_end (I.ok.hd hc) hit hx hE
      · rw [z] at hit; exact wpAny_nextOf_wide_end (I.ok.hd hc) hit hx hE
    unfold pyNext
    refine wpAny_bind (wpAny_attempt (wpAny_callSpecial?_slot (name := Str.ofString "__next__") hT F.slot_enumerate_next
      (wpAny_call_entry F.slot_enumerate_next hT F.entry_enumerate_next ?_ (F.args_enumerate_next_1 _))))
    show wpAny _ _ (field (.ref e) 2 >>= _) _ _ _
    refine wpAny_bind (wpAny_field he rfl (x := .ref it) rfl ?_)
    refine wpAny_bind (D fun h' y he' hx' => ?_)
    obtain ⟨o, ho, hc'⟩ := hx'
    refine wpAny_bind (wpAny_isInstance (T := "StopIteration") (b := true) ⟨o, ho, hc'⟩ isSubtype_stop ?_)
    exact wpAny_pure ⟨rfl, I.turned (t' := s.toks) (fun b o hb q => he' b o hb q) f0 f1 f3 f4 f5⟩
  self := fun A i s Q E st h => let ⟨⟨_, he⟩, _⟩ := st; wpAny_pyIter_enum he h
def iEnumS (ta : TA) : TI := fun σ H R => ta σ H fun vs H1 => ∃ x, vs = [.str x] ∧ R (Ites x) H1
theorem strIter_two (x : Str) : strIterType x = "str_ascii_iterator" ∨ strIterType x = "str_iterator" := by
  unfold strIterType
  split
  · exact .inl rfl
  · exact .inr rfl
theorem pi_enumS {X : Cx} {e : Expr} {ta : TA} {p pos tpos : Pos} {elts : List Expr} {kk : Nat} (hg : Gl X "enumerate") (hm : X.mg "enumerate" = none) (ha : PA X [e] ta) (hs : starEach [e] X.env = [(false, eval e X.env)] := by rfl) :
    PI X (.Tuple elts kk tpos) (.Call (.Name "enumerate" p) [e] [] pos) (iEnumS ta) := by
  refine ⟨fun pins s σ H R I h => ?_⟩
  refine Call_ (ld_blt I hg hm boot_enumerate (PyProof.Rows.callWith_type1 (thn (ha.run pos pins s σ H _ I h) fun us s1 ⟨vs, H1, I1, r1, q1⟩ => ?_) hs rfl))
  obtain ⟨x, ex, q⟩ := q1
  subst ex
  cases r1 with
  | cons r rr =>
    cases rr
    obtain ⟨t, rfl⟩ := r
    refine call_enumerate_str fun h' he hit hsz hk => wpAny_pyIter_enum he ?_
    have I2 : Inv X pins σ H1 { s1 with heap := h' } := I1.kept (t' := s1.toks) hk
    refine ⟨s1.heap.objs.size + 1, [s1.heap.objs.size + 1, s1.heap.objs.size], _, _, H1, rfl, I2, turn_enumS x t _ (strIter_two x) (s1.heap.objs.size + 1) s1.heap.objs.size (Nat.succ_ne_self _), ⟨⟨.none, he⟩, hit⟩, fun b hb => ?_, q⟩
    have e' : b = s1.heap.objs.size + 1 ∨ b = s1.heap.objs.size := by simpa using hb
    have hle : s1.heap.objs.size ≤ b := by
      rcases e' with z | z
      · rw [z]; exact Nat.le_add_right _ _
      · rw [z]; exact Nat.le_refl _
    exact I1.fpOk hle (I1.hok.fresh hle)
theorem walk_enumS {x : Str} : Walk (Ites x) x.cps.size (fun _ => True) (fun i H v H' => ∃ T c, v = .ref T ∧ H T = none ∧ H' = upd H T (.tup [.int (i : Nat), .str ⟨#[c]⟩]) ∧ x.cps[i]? = some c) :=
  ⟨fun _ _ hi _ => hi, fun _ _ => Nat.le_refl _, fun _ _ _ _ _ _ y => y⟩
end N0

/-! B17: tables, distances and ways of the program. -/
namespace N0
open PySem PySem.Spec PyProof.Rows L2
section
variable {σ : L2.St} {H : Hp} {ta : TA} {te : TE} {tc : TT} {tb : TS} {g : TG} {K : PySem.W.Frag} {nx bk ct : L2.St → Hp → Prop} {rt Q : VK} {n : Nat} {tgs : TGs}
theorem g_while (Pm : Nat → L2.St → Hp → Prop) (m0 : Nat) (p0 : Pm m0 σ H)
    (hs : ∀ m σ' H', Pm m σ' H' → tc σ' H' fun b H1 => if b = true then ∃ N : L2.St → Hp → Prop, (∀ σ2 H2, N σ2 H2 → ∃ m', m' < m ∧ Pm m' σ2 H2) ∧ tb (Ends.mk N rt nx N) σ' H1 else nx σ' H1) :
    tWhile tc tb (Ends.mk nx rt bk ct) σ H := ⟨Pm, ⟨m0, p0⟩, hs⟩
theorem g_turn {Pm : Nat → L2.St → Hp → Prop} {m : Nat} (h : tb (Ends.mk (fun σ2 H2 => ∃ m', m' < m ∧ Pm m' σ2 H2) rt nx (fun σ2 H2 => ∃ m', m' < m ∧ Pm m' σ2 H2)) σ H) :
    ∃ N : L2.St → Hp → Prop, (∀ σ2 H2, N σ2 H2 → ∃ m', m' < m ∧ Pm m' σ2 H2) ∧ tb (Ends.mk N rt nx N) σ H := ⟨_, fun _ _ h => h, h⟩
/-- a test whose answer is known -/
theorem g_testTo {tc : TT} {QB : Bool → Hp → Prop} {b0 : Bool} (h : ∀ QB' : Bool → Hp → Prop, QB' b0 H → tc σ H QB') (q : QB b0 H) : tc σ H QB := h QB q
def spFirst : Sp := fun vs H Q _ => ∃ l : List Nat, vs = [.str (mkS l)] ∧ l.length ≤ 1000 ∧ ∀ D H', Same H H' → H D = none → H' D = some (.lst (rowV (Lv.row [] l))) → Q (.ref D) H'
def qEnS (R : It → Hp → Prop) : List V → Hp → Prop := fun vs H => ∃ x, vs = [.str x] ∧ R (Ites x) H
theorem g_iES {R : It → Hp → Prop} (h : ta σ H (qEnS R)) : iEnumS ta σ H R := h
theorem g_enS {l : List Nat} (Pv : Nat → L2.St → Hp → Prop) (p0 : Pv 0 σ H)
    (hs : ∀ (i : Nat) c σ' H' p, l[i]? = some c → Pv i σ' H' → H' p = none → g (.ref p) σ' (upd H' p (.tup [.int (i : Nat), .str (mkS [c])])) fun σ2 H2 => tb (Ends.mk (Pv (i + 1)) rt nx (Pv (i + 1))) σ2 H2)
    (hd : ∀ σ' H', Pv l.length σ' H' → nx σ' H') : qEnS (kFor g tb (Ends.mk nx rt bk ct) σ) [.str (mkS l)] H := by
  have e : (mkS l).cps.size = l.length := by simp [mkS]
  refine ⟨_, rfl, for_it walk_enumS Pv p0 (fun _ _ _ _ _ => trivial) (fun i x σ' H1 H' hi p y => ?_) (by rw [e]; exact hd)⟩
  obtain ⟨T, c, rfl, hT, rfl, hc⟩ := y
  exact hs i c σ' _ T (its_at hc) p hT
theorem g_aug {i : Nat} {x : Int} {f : Int → Int → Int} (h : σ[i]? = some (some (.int x))) (h2 : te σ H fun y H1 => ∃ j, y = .int j ∧ nx (σ.set i (some (.int (f x j)))) H1) : tAug i te (ipI f) (Ends.mk nx rt bk ct) σ H := by
  refine ⟨_, h, ?_⟩
  have e : (fun y H1 => ∃ j, y = .int j ∧ nx (σ.set i (some (.int (f x j)))) H1) = fun y H1 => ipI f (.int x) y H1 fun z H2 => nx (σ.set i (some z)) H2 := by
    funext y H1
    exact propext ⟨fun ⟨j, a, b⟩ => ⟨x, j, rfl, a, b⟩, fun ⟨i', j, a, b, c⟩ => by injection a with a; subst a; exact ⟨j, b, c⟩⟩
  show te σ H fun y H1 => ipI f (.int x) y H1 fun z H2 => nx (σ.set i (some z)) H2
  rw [← e]; exact h2
theorem atI_neg1 {xs : List V} {v : V} {i : Nat} (hl : xs.length = i + 1) (h : xs[i]? = some v) : atI xs (-1) = some v := by
  have e : xs = xs.take i ++ [v] := by
    conv => lhs; rw [← List.take_of_length_le (show xs.length ≤ i + 1 by omega), List.take_succ, h]
    rfl
  rw [e]; exact atI_last _ _
/-- a, b = a pair that stands at p -/
theorem g_pair {p : Addr} {x y : V} {i j : Nat} {R : L2.St → Hp → Prop} (h : SqT K H p [x, y]) (q : R ((σ.set i (some x)).set j (some y)) H) :
    gTup K 2 (gCons (gName i) (gCons (gName j) gNil)) (.ref p) σ H R := ⟨p, [x, y], rfl, h, rfl, x, [y], rfl, y, [], rfl, rfl, q⟩
end
theorem wordB_inv {x : V} (h : wordB x = true) : ∃ l, x = .str (mkS l) ∧ Wd l ∧ l.length ≤ 24 := by
  cases x with
  | str z =>
    obtain ⟨l, rfl⟩ : ∃ y, z = mkS y := ⟨_, mkS_of z⟩
    rw [wordB_str] at h
    obtain ⟨h1, h2⟩ := Bool.and_eq_true_iff.mp h
    exact ⟨l, rfl, fun c hc => (alpha_mem c).mp (of_decide_eq_true (List.all_eq_true.mp h2 c hc)), of_decide_eq_true h1⟩
  | _ => cases h
/-- check_word -/
def spCheck (C T : Addr) : Sp := fun vs H Q E => ∃ (x : V) (U : String), vs = [x] ∧ Kn H x U ∧ Sh x ∧ Tb H T ∧ (wordB x = true → Q .non H) ∧ (wordB x = false → E (.ref C) none H)
/-- of two things: words, or refused -/
def spTwoW (C T : Addr) (R : List Nat → List Nat → Hp → VK → Prop) : Sp := fun vs H Q E => ∃ (x y : V) (U W : String), vs = [x, y] ∧ Kn H x U ∧ Sh x ∧ Kn H y W ∧ Sh y ∧ Tb H T ∧
  (∀ l r, x = .str (mkS l) → y = .str (mkS r) → Wd l → Wd r → l.length ≤ 24 → r.length ≤ 24 → R l r H Q) ∧ (wordB x = false ∨ wordB y = false → ∀ H', Same H H' → E (.ref C) none H')
def wTable : List Nat → List Nat → Hp → VK → Prop := fun l r H Q => ∀ p qs H', Same H H' → H p = none → (∀ q ∈ qs, H q = none ∧ q ≠ p) → TabV H' p qs l r → Q (.ref p) H'
def wDist : List Nat → List Nat → Hp → VK → Prop := fun l r H Q => ∀ H', Same H H' → Q (.int ((Lv.lev l r : Nat))) H'
def wWay : List Nat → List Nat → Hp → VK → Prop := fun l r H Q => ∀ p xs os H', Same H H' → H p = none → H' p = some (.lst xs) → xs.length = os.length → (∀ (i : Nat) x o, xs[i]? = some x → os[i]? = some o → Cg H' x o) → ledR l os = some r → os.length = Lv.lev l r → Q (.ref p) H'
theorem kn_str {H : Hp} {l : List Nat} : Kn H (.str (mkS l)) "str" := .str _
theorem sh_str {l : List Nat} (h : l.length ≤ 1000) : Sh (.str (mkS l)) := by show (mkS l).length ≤ 1000; rw [mkS_len]; exact h
theorem spTwoW_quiet {C T : Addr} {R : List Nat → List Nat → Hp → VK → Prop} {vs : List V} {H : Hp} {Q : VK} (l r : List Nat) (e : vs = [.str (mkS l), .str (mkS r)]) (hl : Wd l) (hr : Wd r) (h1 : l.length ≤ 24) (h2 : r.length ≤ 24) (hT : Tb H T) (q : R l r H Q) : spTwoW C T R vs H Q E0 := by
  refine ⟨_, _, _, _, e, kn_str, sh_str (by omega), kn_str, sh_str (by omega), hT, fun l' r' e1 e2 _ _ _ _ => ?_, fun h => ?_⟩
  · injection e1 with e1; injection e2 with e2
    rw [← mkS_inj.mp e1, ← mkS_inj.mp e2]; exact q
  · rcases h with h | h
    · rw [wordB_wd h1 hl] at h; cases h
    · rw [wordB_wd h2 hr] at h; cases h
section
variable {P : Program} {w : World} {K : PySem.W.Frag} {mg : Str → Option Value} {base : Heap} {k : Nat} {C T : Addr} {x : Str} {ps : List Str}
/-- another promise that asks more and gives less -/
theorem Dd.weak {CX : CXT} {sp sp' : Sp} (D : Dd P w K mg base CX k x ps sp) (h : ∀ vs H Q E, sp' vs H Q E → sp vs H Q E) : Dd P w K mg base CX k x ps sp' := by
  obtain ⟨f, fd, hm, hk, hb, F, he⟩ := D.ex
  exact ⟨f, fd, hm, hk, hb, ⟨fun vs H Q E z => F.len vs H Q E (h _ _ _ _ z), fun A outer s H args us vs Q E hr e0 ha hv hs => F.run A outer s H args us vs Q E hr e0 ha hv (h _ _ _ _ hs)⟩, he⟩
theorem Dd.noX {sp sp' : Sp} (D : Dd P w K mg base (L2.CX P w) k x ps sp) (h : ∀ vs H Q E, sp' vs H Q E → sp vs H Q E0) : Dd P w K mg base CX0 k x ps sp' := by
  obtain ⟨f, fd, hm, hk, hb, F, he⟩ := D.ex
  refine ⟨f, fd, hm, hk, hb, ⟨fun vs H Q E z => F.len vs H Q E0 (h _ _ _ _ z), fun A outer s H args us vs Q E hr e0 ha hv hs => codeAny_mono (F.run A outer s H args us vs Q E0 hr e0 ha hv (h _ _ _ _ hs)) fun r s' hq => ?_⟩, he⟩
  cases r with
  | error e =>
    obtain ⟨_, _, _, _, _, _, _, _, _, _, _, _, z⟩ := hq
    exact z
  | ok fl => cases fl <;> exact hq
end
/-! ### the way from the end to the beginning -/
theorem take_last {l : List Nat} {d : Nat} (h0 : 0 < d) (h : d ≤ l.length) : l.take d = l.take (d - 1) ++ [l[d - 1]'(by omega)] := by
  obtain ⟨e, rfl⟩ : ∃ e, d = e + 1 := ⟨d - 1, by omega⟩
  rw [List.take_succ, List.getElem?_eq_getElem (by omega)]
  rfl
theorem drop_last {l : List Nat} {d : Nat} (h0 : 0 < d) (h : d ≤ l.length) : l.drop (d - 1) = l[d - 1]'(by omega) :: l.drop d := by
  rw [List.drop_eq_getElem_cons (by omega)]
  rw [show d - 1 + 1 = d by omega]
/-- the word between: l's first d letters, r's behind a -/
def mid (l r : List Nat) (d a : Nat) : List Nat := l.take d ++ r.drop a
theorem mid_len {l r : List Nat} {d a : Nat} (hd : d ≤ l.length) (ha : a ≤ r.length) : (mid l r d a).length = d + (r.length - a) := by
  unfold mid; rw [List.length_append, List.length_take, List.length_drop]; omega
theorem mid_same {l r : List Nat} {d a : Nat} (hd0 : 0 < d) (ha0 : 0 < a) (hd : d ≤ l.length) (ha : a ≤ r.length) (h : l[d - 1]'(by omega) = r[a - 1]'(by omega)) : mid l r (d - 1) (a - 1) = mid l r d a := by
  unfold mid
  rw [take_last hd0 hd, drop_last ha0 ha, h]; simp
theorem lev_same_at {l r : List Nat} {d a : Nat} (hd0 : 0 < d) (ha0 : 0 < a) (hd : d ≤ l.length) (ha : a ≤ r.length) (h : l[d - 1]'(by omega) = r[a - 1]'(by omega)) : Lv.lev (l.take d) (r.take a) = Lv.lev (l.take (d - 1)) (r.take (a - 1)) := by
  rw [take_last hd0 hd, take_last ha0 ha, h, Lv.lev_same_end]
theorem mid_get {l r : List Nat} {d a : Nat} (hd0 : 0 < d) (hd : d ≤ l.length) : (mid l r d a)[d - 1]? = some (l[d - 1]'(by omega)) := by
  unfold mid
  rw [List.getElem?_append_left (by rw [List.length_take]; omega), List.getElem?_take_of_lt (by omega), List.getElem?_eq_getElem (by omega)]
theorem mid_turn {l r : List Nat} {d a : Nat} (hd0 : 0 < d) (ha0 : 0 < a) (hd : d ≤ l.length) (ha : a ≤ r.length) : turnAt (mid l r d a) (d - 1) (r[a - 1]'(by omega)) = mid l r (d - 1) (a - 1) := by
  unfold mid turnAt
  have e : (l.take d).length = d := by rw [List.length_take]; omega
  rw [List.take_append_of_le_length (by omega), List.take_take, show d - 1 + 1 = d by omega, List.drop_append_of_le_length (by omega), List.drop_of_length_le (by omega), drop_last ha0 ha, Nat.min_eq_left (by omega)]
  simp
theorem mid_cut {l r : List Nat} {d a : Nat} (hd0 : 0 < d) (hd : d ≤ l.length) : cutAt (mid l r d a) (d - 1) = mid l r (d - 1) a := by
  unfold mid cutAt
  have e : (l.take d).length = d := by rw [List.length_take]; omega
  rw [List.take_append_of_le_length (by omega), List.take_take, show d - 1 + 1 = d by omega, List.drop_append_of_le_length (by omega), List.drop_of_length_le (by omega), Nat.min_eq_left (by omega)]
  simp
theorem mid_put {l r : List Nat} {d a : Nat} (ha0 : 0 < a) (hd : d ≤ l.length) (ha : a ≤ r.length) : putAt (mid l r d a) d (r[a - 1]'(by omega)) = mid l r d (a - 1) := by
  unfold mid putAt
  have e : (l.take d).length = d := by rw [List.length_take]; omega
  rw [List.take_append_of_le_length (by omega), List.take_take, List.drop_append_of_le_length (by omega), List.drop_of_length_le (by omega), drop_last ha0 ha, Nat.min_eq_left (by omega)]
  simp
theorem lev_last {l r : List Nat} {d a : Nat} (hd0 : 0 < d) (ha0 : 0 < a) (hd : d ≤ l.length) (ha : a ≤ r.length) (h : ¬ l[d - 1]'(by omega) = r[a - 1]'(by omega)) (h1 : ¬ Lv.lev (l.take (d - 1)) (r.take (a - 1)) + 1 = Lv.lev (l.take d) (r.take a)) (h2 : ¬ Lv.lev (l.take (d - 1)) (r.take a) + 1 = Lv.lev (l.take d) (r.take a)) :
    Lv.lev (l.take d) (r.take (a - 1)) + 1 = Lv.lev (l.take d) (r.take a) := by
  have e1 := take_last hd0 hd
  have e2 := take_last ha0 ha
  have s := Lv.lev_snoc (l.take (d - 1)) (r.take (a - 1)) (l[d - 1]'(by omega)) (r[a - 1]'(by omega))
  rw [← e1, ← e2, if_neg h] at s
  omega
end N0
namespace My
open PySem PySem.Spec PyProof.Rows L2 L2H N0

local macro_rules | `(tactic| walk_at "v1") => `(tactic| first
  | with_reducible refine' g_seq ?_
  | with_reducible refine' g_set ?_
  | with_reducible refine' g_asg ?_
  | with_reducible refine' g_BM ?_
  | with_reducible refine' g_ret ?_
  | with_reducible refine' g_retN ?_
  | with_reducible refine' g_drop ?_
  | with_reducible refine' g_ifS ?_
  | with_reducible refine' g_next ?_
  | ((with_reducible refine' g_var ?gh ?_); (case gh => exact rfl))
  | with_reducible refine' g_op ?_
  | with_reducible refine' g_cA ?_
  | with_reducible refine' g_cM ?_
  | with_reducible refine' g_cS ?_
  | with_reducible refine' g_c ?_
  | with_reducible refine' g_I0 ?_
  | ((with_reducible refine' g_I ?gh ?_); (case gh => first | (show (0 : Int) < _; omega) | exact ⟨by omega, by omega⟩ | exact Or.inl ⟨by omega, by omega⟩ | exact Or.inr ⟨by omega, by omega⟩))
  | with_reducible refine' g_eqI ?_
  | with_reducible refine' g_neI ?_
  | with_reducible refine' g_eqS ?_
  | with_reducible refine' g_neS ?_
  | with_reducible refine' g_eqB ?_
  | with_reducible refine' g_neB ?_
  | with_reducible refine' g_test ?_
  | with_reducible refine' g_B ?_
  | with_reducible refine' g_bl ?_
  | with_reducible refine' g_ifT ?_
  | with_reducible refine' g_ifF ?_
  | with_reducible refine' g_ifNT ?_
  | with_reducible refine' g_ifNF ?_
  | with_reducible refine' g_and ?_
  | with_reducible refine' g_or ?_
  | with_reducible refine' g_not ?_
  | with_reducible refine' g_andV ?_
  | with_reducible refine' g_orV ?_
  | with_reducible refine' g_notV ?_
  | with_reducible refine' g_ifE ?_
  | with_reducible refine' g_chain ?_
  | with_reducible refine' g_cons ?_
  | with_reducible refine' g_nil ?_
  | with_reducible refine' g_CB ?_
  | with_reducible refine' g_call ?_
  | with_reducible refine' g_callS ?_
  | with_reducible refine' g_callZ ?_
  | with_reducible refine' g_noPart ?_
  | with_reducible refine' g_part ?_
  | with_reducible refine' g_int ?_
  | with_reducible refine' g_Sl ?_
  | with_reducible refine' g_un ?_
  | with_reducible refine' g_U ?_
  | with_reducible refine' g_isN ?_
  | with_reducible refine' g_notN ?_
  | ((with_reducible refine' g_addS ?gh ?_); (case gh => first | omega | (simp only [List.length_append, List.length_cons, List.length_nil, List.length_take, List.length_drop]; omega) | decide +kernel))
  | ((with_reducible refine' g_lenL ?gh ?_); (case gh => first | exact Or.inl (by assumption) | exact Or.inr (by assumption)))
  | with_reducible refine' g_inS ?_
  | with_reducible refine' g_notInS ?_
  | ((with_reducible refine' g_lenS ?gh ?_); (case gh => first | assumption | omega | (simp only [List.length_append, List.length_cons, List.length_nil, List.length_take, List.length_drop]; omega) | decide +kernel))
  | ((with_reducible refine' g_SlTo ?g0 ?gh ?_); (case g0 => omega); (case gh => first | assumption | omega))
  | ((with_reducible refine' g_SlFrom ?g0 ?gh ?_); (case g0 => omega); (case gh => first | assumption | omega))
  | ((with_reducible refine' g_eqK ?gh ?_); (case gh => first | assumption | exact Kn.int _ | exact Kn.str _ | exact Kn.non | exact Kn.bl _))
  | ((with_reducible refine' g_neK ?gh ?_); (case gh => first | assumption | exact Kn.int _ | exact Kn.str _ | exact Kn.non | exact Kn.bl _))
  | ((with_reducible refine' g_SlS ?gh ?_); (case gh => first | assumption | omega | (simp only [List.length_append, List.length_cons, List.length_nil, List.length_take, List.length_drop]; omega)))
  | ((with_reducible refine' g_isKb (b := true) ?gh ?gu ?gb ?_); (case gh => first | assumption | exact Kn.int _ | exact Kn.str _ | exact Kn.non | exact Kn.bl _); (case gu => decide); (case gb => first | assumption | decide))
  | ((with_reducible refine' g_isKb (b := false) ?gh ?gu ?gb ?_); (case gh => first | assumption | exact Kn.int _ | exact Kn.str _ | exact Kn.non | exact Kn.bl _); (case gu => decide); (case gb => first | assumption | decide))
  | ((with_reducible refine' g_isK ?gh ?gu ?_); (case gu => decide); (case gh => first | assumption | exact Kn.int _ | exact Kn.str _ | exact Kn.non | exact Kn.bl _))
  | with_reducible refine' g_for ?_
  | with_reducible refine' g_iR1 ?_
  | with_reducible refine' g_iL ?_
  | with_reducible refine' g_iT ?_
  | with_reducible refine' g_iES ?_
  | ((with_reducible refine' g_aug ?gh ?_); (case gh => exact rfl))
  | ((with_reducible refine' g_ixT ?gh ?ga ?_); (case gh => assumption); (case ga => rfl))
  | fail)
local macro_rules | `(tactic| walk_at "no") => `(tactic| (exfalso; first | contradiction | omega | (simp only [List.length_cons, List.length_nil, List.length_append, List.length_map] at *; omega)))
local macro_rules | `(tactic| walk_at "vi") => `(tactic| (first | (refine g_if (fun h => ?_) (fun h => ?_)) | (refine g_ifN (fun h => ?_) (fun h => ?_)) | (refine g_ifB (fun h => ?_) (fun h => ?_))) <;> (first | (walk_at "no"; done) | skip))
local macro_rules | `(tactic| walk_at "split") => `(tactic| first | (refine g_if (fun h => ?_) (fun h => ?_)) | (refine g_ifN (fun h => ?_) (fun h => ?_)) | (refine g_ifB (fun h => ?_) (fun h => ?_)))
local macro_rules | `(tactic| walk_at "dfs") => `(tactic| repeat' (first | assumption | walk_at "v1" | walk_at "split"))
local macro_rules | `(tactic| walk_at "its") => `(tactic| repeat' (first
  | exact itA_nil | exact goA_nil | refine itA_cons ?_ ?_ | refine goA_cons ?_ ?_
  | exact itE_int | exact itE_bl | exact itE_non | exact itE_str (by decide +kernel) | exact itE_neg | exact itE_dK
  | (refine itE_var rfl ?_; first | assumption | exact itG_int _ | exact itG_bl _ | exact itG_non)
  | exact goE_int | exact goE_non | exact goE_str
  | refine itE_lst itA_nil (by decide)
  | refine itE_lst (itA_cons ?_ itA_nil) (by decide)
  | refine itE_lst (itA_cons ?_ (itA_cons ?_ itA_nil)) (by decide)
  | refine itE_lst (itA_cons ?_ (itA_cons ?_ (itA_cons ?_ itA_nil))) (by decide)
  | refine itE_lst (itA_cons ?_ (itA_cons ?_ (itA_cons ?_ (itA_cons ?_ itA_nil)))) (by decide)
  | refine itE_tup itA_nil (by decide)
  | refine itE_tup (itA_cons ?_ itA_nil) (by decide)
  | refine itE_tup (itA_cons ?_ (itA_cons ?_ itA_nil)) (by decide)
  | refine itE_tup (itA_cons ?_ (itA_cons ?_ (itA_cons ?_ itA_nil))) (by decide)
  | refine itE_tup (itA_cons ?_ (itA_cons ?_ (itA_cons ?_ (itA_cons ?_ itA_nil)))) (by decide)
  | refine goE_tup itA_nil (by decide)
  | refine goE_tup (itA_cons ?_ itA_nil) (by decide)
  | refine goE_tup (itA_cons ?_ (itA_cons ?_ itA_nil)) (by decide)
  | refine goE_tup (itA_cons ?_ (itA_cons ?_ (itA_cons ?_ itA_nil))) (by decide)
  | refine goE_tup (itA_cons ?_ (itA_cons ?_ (itA_cons ?_ (itA_cons ?_ itA_nil)))) (by decide)
  | refine goE_lst itA_nil (by decide)
  | refine goE_lst (itA_cons ?_ itA_nil) (by decide)
  | refine goE_lst (itA_cons ?_ (itA_cons ?_ itA_nil)) (by decide)
  | refine goE_lst (itA_cons ?_ (itA_cons ?_ (itA_cons ?_ itA_nil))) (by decide)
  | refine goE_lst (itA_cons ?_ (itA_cons ?_ (itA_cons ?_ (itA_cons ?_ itA_nil)))) (by decide)
  | decide))
local macro_rules | `(tactic| walk_at "u") => `(tactic| repeat walk_at "v1")
local macro_rules | `(tactic| walk_at "v") => `(tactic| repeat (first | walk_at "v1" | with_reducible refine' g_tup ?_ | with_reducible refine' g_lst ?_))
def top (i : Nat) : Stmt := PySem.Challenge.pw_nearword_k05_ways_and_distances.main.body.getD i (.Pass ⟨0, 0, 0, 0⟩)
abbrev s_is_letter : Stmt := top 6
abbrev n_is_letter : List Str := ["thing"]
theorem sc_is_letter : FnScope n_is_letter ["thing"] (defScope s_is_letter) := ⟨rfl, rfl, rfl, by decide +kernel, rfl, by decide +kernel, by decide +kernel⟩
abbrev s_is_word : Stmt := top 7
abbrev n_is_word : List Str := ["thing"]
theorem sc_is_word : FnScope n_is_word ["thing"] (defScope s_is_word) := ⟨rfl, rfl, rfl, by decide +kernel, rfl, by decide +kernel, by decide +kernel⟩
abbrev s_check_word : Stmt := top 8
abbrev n_check_word : List Str := ["thing"]
theorem sc_check_word : FnScope n_check_word ["thing"] (defScope s_check_word) := ⟨rfl, rfl, rfl, by decide +kernel, rfl, by decide +kernel, by decide +kernel⟩
abbrev s_first_row : Stmt := top 10
abbrev n_first_row : List Str := ["word"]
theorem sc_first_row : FnScope n_first_row ["word"] (defScope s_first_row) := ⟨rfl, rfl, rfl, by decide +kernel, rfl, by decide +kernel, by decide +kernel⟩
abbrev s_next_row : Stmt := top 11
abbrev n_next_row : List Str := ["above", "letter", "word", "row", "at", "sign", "unlike"]
theorem sc_next_row : FnScope n_next_row ["above", "letter", "word"] (defScope s_next_row) := ⟨rfl, rfl, rfl, by decide +kernel, rfl, by decide +kernel, by decide +kernel⟩
abbrev s_table : Stmt := top 12
abbrev n_table : List Str := ["one", "other", "rows", "letter"]
theorem sc_table : FnScope n_table ["one", "other"] (defScope s_table) := ⟨rfl, rfl, rfl, by decide +kernel, rfl, by decide +kernel, by decide +kernel⟩
abbrev s_distance : Stmt := top 13
abbrev n_distance : List Str := ["one", "other"]
theorem sc_distance : FnScope n_distance ["one", "other"] (defScope s_distance) := ⟨rfl, rfl, rfl, by decide +kernel, rfl, by decide +kernel, by decide +kernel⟩
abbrev s_way : Stmt := top 14
abbrev n_way : List Str := ["one", "other", "rows", "changes", "down", "across", "here"]
theorem sc_way : FnScope n_way ["one", "other"] (defScope s_way) := ⟨rfl, rfl, rfl, by decide +kernel, rfl, by decide +kernel, by decide +kernel⟩
abbrev s_law_at : Stmt := top 16
abbrev n_law_at : List Str := ["_law_script", "_law_k"]
theorem sc_law_at : FnScope n_law_at ["_law_script", "_law_k"] (defScope s_law_at) := ⟨rfl, rfl, rfl, by decide +kernel, rfl, by decide +kernel, by decide +kernel⟩
abbrev s_law_whole : Stmt := top 17
abbrev n_law_whole : List Str := ["_law_thing"]
theorem sc_law_whole : FnScope n_law_whole ["_law_thing"] (defScope s_law_whole) := ⟨rfl, rfl, rfl, by decide +kernel, rfl, by decide +kernel, by decide +kernel⟩
abbrev s_law_letter : Stmt := top 18
abbrev n_law_letter : List Str := ["_law_mode", "_law_number", "_law_span", "_law_step_here"]
theorem sc_law_letter : FnScope n_law_letter ["_law_mode", "_law_number"] (defScope s_law_letter) := ⟨rfl, rfl, rfl, by decide +kernel, rfl, by decide +kernel, by decide +kernel⟩
abbrev s_law_word : Stmt := top 19
abbrev n_law_word : List Str := ["_law_mode", "_law_cell", "_law_most", "_law_size", "_law_found", "_law_k"]
theorem sc_law_word : FnScope n_law_word ["_law_mode", "_law_cell", "_law_most"] (defScope s_law_word) := ⟨rfl, rfl, rfl, by decide +kernel, rfl, by decide +kernel, by decide +kernel⟩
abbrev s_law_bent : Stmt := top 20
abbrev n_law_bent : List Str := ["_law_mode", "_law_word_here", "_law_cell", "_law_k", "_law_more", "_law_at_here", "_law_letter_here"]
theorem sc_law_bent : FnScope n_law_bent ["_law_mode", "_law_word_here", "_law_cell"] (defScope s_law_bent) := ⟨rfl, rfl, rfl, by decide +kernel, rfl, by decide +kernel, by decide +kernel⟩
abbrev s_law_two : Stmt := top 21
abbrev n_law_two : List Str := ["_law_script", "_law_mode", "_law_most", "_law_one", "_law_other"]
theorem sc_law_two : FnScope n_law_two ["_law_script"] (defScope s_law_two) := ⟨rfl, rfl, rfl, by decide +kernel, rfl, by decide +kernel, by decide +kernel⟩
abbrev s_law_step : Stmt := top 22
abbrev n_law_step : List Str := ["_law_text", "_law_change", "_law_place", "_law_letter_here"]
theorem sc_law_step : FnScope n_law_step ["_law_text", "_law_change"] (defScope s_law_step) := ⟨rfl, rfl, rfl, by decide +kernel, rfl, by decide +kernel, by decide +kernel⟩
abbrev s_law_led : Stmt := top 23
abbrev n_law_led : List Str := ["_law_text", "_law_changes", "_law_change"]
theorem sc_law_led : FnScope n_law_led ["_law_text", "_law_changes"] (defScope s_law_led) := ⟨rfl, rfl, rfl, by decide +kernel, rfl, by decide +kernel, by decide +kernel⟩
abbrev s_law_next : Stmt := top 24
abbrev n_law_next : List Str := ["_law_row", "_law_letter_here", "_law_word_here", "_law_found", "_law_at_here", "_law_more"]
theorem sc_law_next : FnScope n_law_next ["_law_row", "_law_letter_here", "_law_word_here"] (defScope s_law_next) := ⟨rfl, rfl, rfl, by decide +kernel, rfl, by decide +kernel, by decide +kernel⟩
abbrev s_law_far : Stmt := top 25
abbrev n_law_far : List Str := ["_law_one", "_law_other", "_law_row", "_law_letter_here"]
theorem sc_law_far : FnScope n_law_far ["_law_one", "_law_other"] (defScope s_law_far) := ⟨rfl, rfl, rfl, by decide +kernel, rfl, by decide +kernel, by decide +kernel⟩
abbrev s_law : Stmt := top 26
abbrev n_law : List Str := ["_law_script", "_law_one", "_law_other", "_law_far_here", "_law_turn", "_law_found"]
theorem sc_law : FnScope n_law ["_law_script"] (defScope s_law) := ⟨rfl, rfl, rfl, by decide +kernel, rfl, by decide +kernel, by decide +kernel⟩
structure Bi (mg : Str → Option Value) : Prop where
  n_len : mg "len" = none
  n_range : mg "range" = none
  n_isinstance : mg "isinstance" = none
  n_int : mg "int" = none
  n_bool : mg "bool" = none
  n_str : mg "str" = none
  n_min : mg "min" = none
  n_list : mg "list" = none
  n_tuple : mg "tuple" = none
  n_all : mg "all" = none
  n_enumerate : mg "enumerate" = none
  c_LETTERS : ∃ t, mg "LETTERS" = some (.str (mkS alpha) t)
  c_MOST_LETTERS : ∃ t, mg "MOST_LETTERS" = some (.int 24 t)
section
variable {P : Program} {w : World} {K : PySem.W.Frag} {mg : Str → Option Value} {base : Heap}
theorem d_is_word (A : At K mg "is_word" s_is_word) (bi : Bi mg) {c T : Addr} (ca : CodeAt K mg "is_word" c) (tb : GxR.TabB base mg c T) (lr : Mod K mg base → LetRaw P w K mg base) : Dd P w K mg base CX0 1 "is_word" ["thing"] (spIsWord T) := by
  have sc := sc_is_word
  refine A.okT ca sc (fun _ _ _ _ _ _ us hl => match us, hl with | [_], _ => rfl) (fun vs H Q E h => ?_) (fun f A outer s H vs Q E hr h => ?_)
  · obtain ⟨_, _, rfl, _⟩ := h; rfl
  have hu := hu_of hr
  obtain ⟨tM, c_MOST_LETTERS⟩ := bi.c_MOST_LETTERS
  obtain ⟨x, U, rfl, k, hs, hT, q⟩ := h
  refine ⟨_, (pss_cons (ps_if (PW.pt (pw_or (pt_not (pt_val (pe_callB call_isK (by rfl) bi.n_isinstance (by decide +kernel) (pa_cons (pv 0) (pa_cons (pe_bltn (v := .ty "str") (by rfl) bi.n_str (by decide +kernel) rfl) pa_nil))))) (pw_or1 (pt_cmpR op_gt (pe_callB c_lenS (by rfl) bi.n_len (by decide +kernel) (pa_cons (pv 0) pa_nil)) (pe_glob (v := .int 24) (by rfl) c_MOST_LETTERS ⟨_, rfl⟩) (nomark _))))) (pss_one (ps_ret pe_bl)) pss_nil)
  (pss_one (ps_ret (pe_all1 hr rfl bi.n_all tb rfl (gens_of rfl rfl (by decide +kernel) rfl rfl (by decide +kernel)) (pv 0) (fun env A E c t s m hs hg hh hd M hb hn hm => let_elt M (lr M) (by rw [hs] <;> rfl) hg (by rw [hs] <;> rfl) (by rw [hs] <;> rfl) (Nat.lt_of_le_of_lt hd (depth1 hr)) hb hn hm) (fun _ => rfl))))), ?_⟩
  refine g_start (show L2.start _ _ = [some _] from rfl) ?_
  by_cases hU : U = "str"
  · cases k with
    | str z =>
      obtain ⟨l, rfl⟩ : ∃ y, z = mkS y := ⟨_, mkS_of z⟩
      have hl : l.length ≤ 1000 := by rw [← mkS_len]; exact hs
      walk_at "v"
      refine g_if (fun h => ?_) (fun h => ?_)
      · walk_at "v"
        rw [wordB_str, decide_eq_false (by omega), Bool.false_and] at q
        exact q
      · walk_at "v"
        refine g_all1 rfl hT ?_
        rw [wordB_str, decide_eq_true (by omega), Bool.true_and] at q
        exact q
    | _ => exact absurd hU (by decide)
  · have e : isK U "str" = false := by simp [isK, hU]
    walk_at "v"
    rw [wordB_kn k hU] at q
    exact q
theorem lr_is_letter (A : At K mg "is_letter" s_is_letter) (bi : Bi mg) (M : Mod K mg base) : LetRaw P w K mg base :=
  let_raw M A ⟨rfl, rfl, rfl, by decide +kernel, rfl, rfl, rfl, rfl, rfl⟩ ⟨bi.n_isinstance, bi.n_str, bi.n_len, bi.c_LETTERS⟩ (fun _ _ _ _ _ _ us hl => match us, hl with | [_], _ => rfl) rfl
theorem d_check_word (A : At K mg "check_word" s_check_word) (bi : Bi mg) {C T : Addr} (x_BadWord : Xc K mg "BadWord" C) (d_is_word : Dd P w K mg base CX0 1 "is_word" ["thing"] (spIsWord T)) : Dd P w K mg base (L2.CX P w) 2 "check_word" ["thing"] (spCheck C T) := by
  have sc := sc_check_word
  refine A.okX sc (fun _ _ _ _ _ _ us hl => match us, hl with | [_], _ => rfl) (fun vs H Q E h => ?_) (fun f cdv A outer s H vs Q E hr h => ?_)
  · obtain ⟨_, _, rfl, _⟩ := h; rfl
  have hu := hu_of hr
  have tk := takes_of (X := cxOf (L2.CX P w) P w K mg base n_check_word "check_word" (defScope s_check_word) f cdv A outer s H E) rfl rfl rfl rfl
  obtain ⟨x, U, rfl, k, hs, hT, q1, q2⟩ := h
  refine ⟨_, (pss_one (ps_if (pt_not (pt_val (pe_callD d_is_word (hr.mono (by decide)) rfl pass0 (pa_cons (pv 0) pa_nil)))) (pss_one (ps_raise rfl tk (pmk_own PySem.F.excBase_ValueError x_BadWord.ex x_BadWord.g x_BadWord.kp (raises_own x_BadWord.sb x_BadWord.ty) (by rfl)))) pss_nil)), ?_⟩
  refine g_start (show L2.start _ _ = [some _] from rfl) ?_
  walk_at "v"
  refine ⟨x, U, rfl, k, hs, hT, ?_⟩
  walk_at "v"
  cases e : wordB x with
  | true =>
    walk_at "v"
    exact q1 e
  | false =>
    walk_at "v"
    exact q2 e
theorem d_first_row (A : At K mg "first_row" s_first_row) (bi : Bi mg) : Dd P w K mg base CX0 1 "first_row" ["word"] (spFirst) := by
  have sc := sc_first_row
  refine A.ok sc (fun _ _ _ _ _ _ us hl => match us, hl with | [_], _ => rfl) (fun vs H Q E h => ?_) (fun f cdv A outer s H vs Q E hr h => ?_)
  · obtain ⟨_, rfl, _⟩ := h; rfl
  have hu := hu_of hr
  obtain ⟨l, rfl, hl, q⟩ := h
  refine ⟨_, (pss_one (ps_ret (pe_listRg rfl (by rfl) bi.n_list (prg_1 (by rfl) bi.n_range (pe_op op_add (pe_callB c_lenS (by rfl) bi.n_len (by decide +kernel) (pa_cons (pv 0) pa_nil)) pe_int))))), ?_⟩
  refine g_start (show L2.start _ _ = [some _] from rfl) ?_
  walk_at "u"
  refine g_listRg ?_
  walk_at "u"
  refine ⟨RgOk.of_le (by omega) (by omega) (by omega) (by omega), fun D hD => ?_⟩
  rw [rg_row]
  exact q D _ (Same.new hD) hD upd_same
theorem d_next_row (A : At K mg "next_row" s_next_row) (bi : Bi mg) : Dd P w K mg base CX0 1 "next_row" ["above", "letter", "word"] (spNext K) := by
  have sc := sc_next_row
  refine A.ok sc (fun _ _ _ _ _ _ us hl => match us, hl with | [_, _, _], _ => rfl) (fun vs H Q E h => ?_) (fun f cdv A outer s H vs Q E hr h => ?_)
  · obtain ⟨_, _, _, _, rfl, _⟩ := h; rfl
  have hu := hu_of hr
  obtain ⟨a, p, b, c, rfl, hS, hb, q⟩ := h
  refine ⟨_, (pss_cons (ps_set (i := 3) sc.nd rfl (Or.inl rfl) (pe_lst (pa_cons (pe_op op_add (pe_ix ix_list (pv 0) pe_int (fun _ _ => rfl)) pe_int) pa_nil)))
  (pss_cons (ps_for PassesOwn.never rfl (pi_enumS (by rfl) bi.n_enumerate (pa_cons (pv 2) pa_nil)) (pg_tup rfl (pgs_cons (pg_name (i := 4) sc.nd rfl (Or.inl rfl)) (pgs_cons (pg_name (i := 5) sc.nd rfl (Or.inl rfl)) pgs_nil))) (Evl.pss_cut (ps_set (i := 6) sc.nd rfl (Or.inl rfl) (pe_ifExp (pt_cmpR op_eq (pv 5) (pv 1) (nomark _)) pe_int pe_int))
  (pss_one (ps_expr (pe_bm PySem.F.plainAttrs_list PySem.F.slot_list_append PySem.F.type_list_append mt_append (pv 3) (pa_cons (pe_callB (c_min3 rfl) (by rfl) bi.n_min (by decide +kernel) (pa_cons (pe_op op_add (pe_ix ix_list (pv 3) (pv 4) (fun _ _ => rfl)) pe_int) (pa_cons (pe_op op_add (pe_ix ix_list (pv 0) (pe_op op_add (pv 4) pe_int) (fun _ _ => rfl)) pe_int) (pa_cons (pe_op op_add (pe_ix ix_list (pv 0) (pv 4) (fun _ _ => rfl)) (pv 6)) pa_nil)))) pa_nil))))))
  (pss_one (ps_ret (pv 3))))), ?_⟩
  refine g_start (show L2.start _ _ = [some _, some _, some _, none, none, none, none] from rfl) ?_
  walk_at "v"
  refine g_ixL hS (at_ofN (by decide) (rowV_get (row_zero p b))) ?_
  walk_at "u"
  refine ⟨by show 1 ≤ sizeLine; decide, fun D hD => ?_⟩
  walk_at "u"
  refine g_enS (fun i σ' H' => ∃ v1 v2 v3, σ' = [some (.ref a), some (.str (mkS [c])), some (.str (mkS b)), some (.ref D), v1, v2, v3] ∧ Same H H' ∧ H' D = some (.lst (rowV ((Lv.row (p ++ [c]) b).take (i + 1))))) ⟨none, none, none, rfl, Same.new hD, by rw [row_first]; exact upd_same⟩ ?_ ?_
  · rintro i y σ' H' T0 hy ⟨v1, v2, v3, rfl, s0, hD'⟩ hT0
    have hi2 : i < b.length := (List.getElem?_eq_some_iff.mp hy).1
    refine g_pair (SqT.of upd_same) ?_
    have s1 : Same H (upd H' T0 (.tup [.int (i : Nat), .str (mkS [y])])) := s0.trans (Same.new hT0)
    have hD1 : upd H' T0 (.tup [.int (i : Nat), .str (mkS [y])]) D = some (.lst (rowV ((Lv.row (p ++ [c]) b).take (i + 1)))) := by rw [upd_ne (ne_of_none hD' hT0)]; exact hD'
    generalize upd H' T0 (.tup [.int (i : Nat), .str (mkS [y])]) = H1 at s1 hD1
    refine g_cut (fun σ3 H3 => σ3 = [some (.ref a), some (.str (mkS [c])), some (.str (mkS b)), some (.ref D), some (.int (i : Nat)), some (.str (mkS [y])), some (.int ((if y = c then 0 else 1 : Nat)))] ∧ H3 = H1) ?_ ?_
    · walk_at "u"
      refine g_if (fun h => ?_) (fun h => ?_)
      · have e : y = c := by injection h
        walk_at "u"
        exact ⟨by rw [if_pos e]; rfl, rfl⟩
      · have e : ¬ y = c := fun z => h (by rw [z])
        walk_at "u"
        exact ⟨by rw [if_neg e]; rfl, rfl⟩
    · rintro σ3 H3 ⟨rfl, rfl⟩
      walk_at "u"
      refine ⟨Or.inl ⟨rfl, _, SqL.of hD1⟩, ?_⟩
      walk_at "u"
      refine g_ixL (SqL.of hD1) (at_ofN (by omega) (rowV_get (by rw [List.getElem?_take_of_lt (by omega)]; exact Lv.row_get (by omega)))) ?_
      walk_at "u"
      refine g_ixL (s1.seq hS) (at_ofN (by omega) (by rw [show ((i : Int) + 1).toNat = i + 1 from rfl]; exact rowV_get (Lv.row_get (by omega)))) ?_
      walk_at "u"
      refine g_ixL (s1.seq hS) (at_ofN (by omega) (rowV_get (Lv.row_get (by omega)))) ?_
      walk_at "u"
      refine g_min3 (Int.natCast_add _ 1).symm (Int.natCast_add _ 1).symm (Int.natCast_add _ _).symm ?_
      walk_at "u"
      refine g_append hD1 (by rw [rowV_len, List.length_take]; omega) ?_
      walk_at "u"
      refine ⟨_, _, _, rfl, Same.wr s1 hD, ?_⟩
      rw [upd_same, row_step hy]
      simp only [rowV, List.map_append, List.map_cons, List.map_nil]
      congr 4
      simp only [Int.toNat_natCast]
      congr 2
      omega
  · rintro σ' H' ⟨v1, v2, v3, rfl, s0, hD'⟩
    walk_at "u"
    refine q D H' s0 hD ?_
    rw [hD', List.take_of_length_le (by rw [Lv.row_len]; omega)]
theorem d_table (A : At K mg "table" s_table) (bi : Bi mg) {C T : Addr} (x_BadWord : Xc K mg "BadWord" C) (d_check_word : Dd P w K mg base (L2.CX P w) 2 "check_word" ["thing"] (spCheck C T)) (d_first_row : Dd P w K mg base CX0 1 "first_row" ["word"] (spFirst)) (d_next_row : Dd P w K mg base CX0 1 "next_row" ["above", "letter", "word"] (spNext K)) : Dd P w K mg base (L2.CX P w) 3 "table" ["one", "other"] (spTwoW C T wTable) := by
  have sc := sc_table
  refine A.okX sc (fun _ _ _ _ _ _ us hl => match us, hl with | [_, _], _ => rfl) (fun vs H Q E h => ?_) (fun f cdv A outer s H vs Q E hr h => ?_)
  · obtain ⟨_, _, _, _, rfl, _⟩ := h; rfl
  have hu := hu_of hr
  have tk := takes_of (X := cxOf (L2.CX P w) P w K mg base n_table "table" (defScope s_table) f cdv A outer s H E) rfl rfl rfl rfl
  obtain ⟨x, y, U, W, rfl, kx, hx, ky, hy, hT, q, n⟩ := h
  refine ⟨_, (pss_cons (ps_expr (pe_callDS d_check_word (hr.mono (by decide)) rfl (fun σ => passAt tk σ) (by exact (pa_cons (pv 0) pa_nil))))
  (pss_cons (ps_expr (pe_callDS d_check_word (hr.mono (by decide)) rfl (fun σ => passAt tk σ) (by exact (pa_cons (pv 1) pa_nil))))
  (pss_cons (ps_set (i := 2) sc.nd rfl (Or.inl rfl) (pe_lst (pa_cons (pe_callD d_first_row (hr.mono (by decide)) rfl pass0 (pa_cons (pv 1) pa_nil)) pa_nil)))
  (pss_cons (ps_for (passes_of rfl) rfl (pi_str (pv 0)) (pg_name (i := 3) sc.nd rfl (Or.inl rfl)) (pss_one (ps_expr (pe_bm PySem.F.plainAttrs_list PySem.F.slot_list_append PySem.F.type_list_append mt_append (pv 2) (pa_cons (pe_callD d_next_row (hr.mono (by decide)) rfl pass0 (pa_cons (pe_ix ix_list (pv 2) (pe_un un_neg pe_int) (fun _ _ => rfl)) (pa_cons (pv 3) (pa_cons (pv 1) pa_nil)))) pa_nil)))))
  (pss_one (ps_ret (pv 2))))))), ?_⟩
  refine g_start (show L2.start _ _ = [some _, some _, none, none] from rfl) ?_
  walk_at "u"
  refine ⟨x, U, rfl, kx, hx, hT, fun ok1 => ?_, fun no1 => n (.inl no1) H (Same.refl _)⟩
  walk_at "u"
  refine ⟨y, W, rfl, ky, hy, hT, fun ok2 => ?_, fun no2 => n (.inr no2) H (Same.refl _)⟩
  obtain ⟨l, rfl, hw, hl⟩ := wordB_inv ok1
  obtain ⟨r, rfl, hw2, hl2⟩ := wordB_inv ok2
  have q := q l r rfl rfl hw hw2 hl hl2
  walk_at "v"
  refine ⟨r, rfl, by omega, fun D0 H1 s1 hD0 e0 => ?_⟩
  walk_at "u"
  refine ⟨by show 1 ≤ sizeLine; decide, fun D hD1 => ?_⟩
  have hD : H D = none := s1.free hD1
  walk_at "u"
  refine g_txt rfl (fun i σ' H' => ∃ (qs : List Addr) (v : Option V), σ' = [some (.str (mkS l)), some (.str (mkS r)), some (.ref D), v] ∧ Same H H' ∧ H' D = some (.lst (qs.map V.ref)) ∧ qs.length = i + 1 ∧
    ∀ (k : Nat) q, qs[k]? = some q → H' q = some (.lst (rowV (Lv.row (l.take k) r))) ∧ H q = none ∧ q ≠ D) ⟨[D0], none, rfl, s1.trans (Same.new hD1), upd_same, rfl, ?_⟩ ?_ ?_
  · intro k q hk
    match k, hk with
    | 0, hk =>
      injection hk with hk
      subst hk
      have hne : D0 ≠ D := ne_of_none e0 hD1
      exact ⟨by rw [upd_ne hne]; exact e0, hD0, hne⟩
  · rintro i c σ' H' hc ⟨qs, v, rfl, s0, eD, hq, er⟩
    have hi : i < l.length := (List.getElem?_eq_some_iff.mp hc).1
    obtain ⟨q1, hq1⟩ : ∃ q1, qs[i]? = some q1 := ⟨qs[i]'(by omega), List.getElem?_eq_getElem _⟩
    obtain ⟨e1, f1, n1⟩ := er i q1 hq1
    walk_at "u"
    refine ⟨Or.inl ⟨rfl, _, SqL.of eD⟩, ?_⟩
    walk_at "u"
    refine g_ixL (SqL.of eD) (atI_neg1 (by rw [List.length_map]; exact hq) (by rw [List.getElem?_map, hq1]; rfl)) ?_
    walk_at "u"
    refine ⟨q1, l.take i, r, c, rfl, SqL.of e1, by omega, fun D2 H2 s2 hD2 e2 => ?_⟩
    walk_at "u"
    have nD2 : D2 ≠ D := (ne_of_none eD hD2).symm
    refine g_append (s2 _ _ eD) (by rw [List.length_map]; omega) ?_
    walk_at "u"
    refine ⟨qs ++ [D2], _, rfl, Same.wr (s0.trans s2) hD, by rw [upd_same, List.map_append]; rfl, by rw [List.length_append, hq]; rfl, ?_⟩
    intro k q hk
    by_cases hlt : k < qs.length
    · rw [List.getElem?_append_left hlt] at hk
      obtain ⟨a1, a2, a3⟩ := er k q hk
      exact ⟨by rw [upd_ne a3]; exact s2 _ _ a1, a2, a3⟩
    · rw [List.getElem?_append_right (by omega)] at hk
      obtain ⟨h9, h8⟩ := List.getElem?_eq_some_iff.mp hk
      have hk0 : k = i + 1 := by simp at h9; omega
      have hkb : q = D2 := by rw [← h8]; simp
      subst hk0 hkb
      refine ⟨?_, s0.free hD2, nD2⟩
      rw [upd_ne nD2, e2, List.take_succ, hc]
      rfl
  · rintro σ' H' ⟨qs, v, rfl, s0, eD, hq, er⟩
    walk_at "u"
    exact q D qs H' s0 hD (fun q0 h0 => by obtain ⟨k, hk, ek⟩ := List.getElem_of_mem h0; obtain ⟨_, a2, a3⟩ := er k q0 (by rw [List.getElem?_eq_getElem hk, ek]); exact ⟨a2, a3⟩) ⟨eD, hq, fun i q0 h0 => (er i q0 h0).1⟩
theorem d_distance (A : At K mg "distance" s_distance) (bi : Bi mg) {C T : Addr} (d_table : Dd P w K mg base (L2.CX P w) 3 "table" ["one", "other"] (spTwoW C T wTable)) : Dd P w K mg base (L2.CX P w) 4 "distance" ["one", "other"] (spTwoW C T wDist) := by
  have sc := sc_distance
  refine A.okX sc (fun _ _ _ _ _ _ us hl => match us, hl with | [_, _], _ => rfl) (fun vs H Q E h => ?_) (fun f cdv A outer s H vs Q E hr h => ?_)
  · obtain ⟨_, _, _, _, rfl, _⟩ := h; rfl
  have hu := hu_of hr
  have tk := takes_of (X := cxOf (L2.CX P w) P w K mg base n_distance "distance" (defScope s_distance) f cdv A outer s H E) rfl rfl rfl rfl
  obtain ⟨x, y, U, W, rfl, kx, hx, ky, hy, hT, q, n⟩ := h
  refine ⟨_, (pss_one (ps_ret (pe_ix ix_list (pe_ix ix_list (pe_callDS d_table (hr.mono (by decide)) rfl (fun σ => passAt tk σ) (by exact (pa_cons (pv 0) (pa_cons (pv 1) pa_nil)))) (pe_un un_neg pe_int) (fun _ _ => rfl)) (pe_un un_neg pe_int) (fun _ _ => rfl)))), ?_⟩
  refine g_start (show L2.start _ _ = [some _, some _] from rfl) ?_
  walk_at "u"
  refine ⟨x, y, U, W, rfl, kx, hx, ky, hy, hT, fun l r e1 e2 hw hw2 hl hl2 p qs H1 s1 hp hq t => ?_, n⟩
  have q := q l r e1 e2 hw hw2 hl hl2
  obtain ⟨q1, m1, g1, e3⟩ := t.at (i := l.length) (Nat.le_refl _)
  walk_at "u"
  refine g_ixL (SqL.of t.top) (atI_neg1 (i := l.length) (by rw [List.length_map, t.len]) g1) ?_
  walk_at "u"
  have e4 := row_at (l := l) (r := r) (i := l.length) (j := r.length) (Nat.le_refl _)
  rw [List.take_length, List.take_length] at e4
  refine g_ixL (SqL.of e3) (atI_neg1 (i := r.length) (by rw [rowV_len, Lv.row_len]) (by rw [List.take_length]; exact e4)) ?_
  exact q _ s1
theorem d_way (A : At K mg "way" s_way) (bi : Bi mg) {C T : Addr} (d_table : Dd P w K mg base (L2.CX P w) 3 "table" ["one", "other"] (spTwoW C T wTable)) : Dd P w K mg base (L2.CX P w) 4 "way" ["one", "other"] (spTwoW C T wWay) := by
  have sc := sc_way
  refine A.okX sc (fun _ _ _ _ _ _ us hl => match us, hl with | [_, _], _ => rfl) (fun vs H Q E h => ?_) (fun f cdv A outer s H vs Q E hr h => ?_)
  · obtain ⟨_, _, _, _, rfl, _⟩ := h; rfl
  have hu := hu_of hr
  have tk := takes_of (X := cxOf (L2.CX P w) P w K mg base n_way "way" (defScope s_way) f cdv A outer s H E) rfl rfl rfl rfl
  obtain ⟨x, y, U, W, rfl, kx, hx, ky, hy, hT, q, n⟩ := h
  refine ⟨_, (pss_cons (ps_set (i := 2) sc.nd rfl (Or.inl rfl) (pe_callDS d_table (hr.mono (by decide)) rfl (fun σ => passAt tk σ) (by exact (pa_cons (pv 0) (pa_cons (pv 1) pa_nil)))))
  (pss_cons (ps_set (i := 3) sc.nd rfl (Or.inl rfl) (pe_lst pa_nil))
  (pss_cons (ps_set (i := 4) sc.nd rfl (Or.inl rfl) (pe_callB c_lenS (by rfl) bi.n_len (by decide +kernel) (pa_cons (pv 0) pa_nil)))
  (pss_cons (ps_set (i := 5) sc.nd rfl (Or.inl rfl) (pe_callB c_lenS (by rfl) bi.n_len (by decide +kernel) (pa_cons (pv 1) pa_nil)))
  (pss_cons (ps_while (passes_of rfl) (PW.pt (pw_or (pt_cmpR op_gt (pv 4) pe_int (nomark _)) (pw_or1 (pt_cmpR op_gt (pv 5) pe_int (nomark _))))) (Evl.pss_cut (ps_set (i := 6) sc.nd rfl (Or.inl rfl) (pe_ix ix_list (pe_ix ix_list (pv 2) (pv 4) (fun _ _ => rfl)) (pv 5) (fun _ _ => rfl)))
  (pss_one (ps_if (PW.pt (pw_and (pt_cmpR op_gt (pv 4) pe_int (nomark _)) (pw_and (pt_cmpR op_gt (pv 5) pe_int (nomark _)) (pw_and1 (pt_cmpR op_eq (pe_ix ix_str (pv 0) (pe_op op_sub (pv 4) pe_int) (fun _ _ => rfl)) (pe_ix ix_str (pv 1) (pe_op op_sub (pv 5) pe_int) (fun _ _ => rfl)) (nomark _)))))) (pss_cons (ps_aug (i := 4) sc.nd rfl (Or.inl rfl) pe_int ip_sub)
  (pss_one (ps_aug (i := 5) sc.nd rfl (Or.inl rfl) pe_int ip_sub))) (pss_one (ps_if (PW.pt (pw_and (pt_cmpR op_gt (pv 4) pe_int (nomark _)) (pw_and (pt_cmpR op_gt (pv 5) pe_int (nomark _)) (pw_and1 (pt_cmpR op_eq (pe_op op_add (pe_ix ix_list (pe_ix ix_list (pv 2) (pe_op op_sub (pv 4) pe_int) (fun _ _ => rfl)) (pe_op op_sub (pv 5) pe_int) (fun _ _ => rfl)) pe_int) (pv 6) (nomark _)))))) (pss_cons (ps_expr (pe_bm PySem.F.plainAttrs_list PySem.F.slot_list_append PySem.F.type_list_append mt_append (pv 3) (pa_cons (pe_tup (pa_cons pe_str (pa_cons (pe_op op_sub (pv 4) pe_int) (pa_cons (pe_ix ix_str (pv 1) (pe_op op_sub (pv 5) pe_int) (fun _ _ => rfl)) pa_nil)))) pa_nil)))
  (pss_cons (ps_aug (i := 4) sc.nd rfl (Or.inl rfl) pe_int ip_sub)
  (pss_one (ps_aug (i := 5) sc.nd rfl (Or.inl rfl) pe_int ip_sub)))) (pss_one (ps_if (PW.pt (pw_and (pt_cmpR op_gt (pv 4) pe_int (nomark _)) (pw_and1 (pt_cmpR op_eq (pe_op op_add (pe_ix ix_list (pe_ix ix_list (pv 2) (pe_op op_sub (pv 4) pe_int) (fun _ _ => rfl)) (pv 5) (fun _ _ => rfl)) pe_int) (pv 6) (nomark _))))) (pss_cons (ps_expr (pe_bm PySem.F.plainAttrs_list PySem.F.slot_list_append PySem.F.type_list_append mt_append (pv 3) (pa_cons (pe_tup (pa_cons pe_str (pa_cons (pe_op op_sub (pv 4) pe_int) pa_nil))) pa_nil)))
  (pss_one (ps_aug (i := 4) sc.nd rfl (Or.inl rfl) pe_int ip_sub))) (pss_cons (ps_expr (pe_bm PySem.F.plainAttrs_list PySem.F.slot_list_append PySem.F.type_list_append mt_append (pv 3) (pa_cons (pe_tup (pa_cons pe_str (pa_cons (pv 4) (pa_cons (pe_ix ix_str (pv 1) (pe_op op_sub (pv 5) pe_int) (fun _ _ => rfl)) pa_nil)))) pa_nil)))
  (pss_one (ps_aug (i := 5) sc.nd rfl (Or.inl rfl) pe_int ip_sub)))))))))))
  (pss_one (ps_ret (pv 3)))))))), ?_⟩
  refine g_start (show L2.start _ _ = [some _, some _, none, none, none, none, none] from rfl) ?_
  walk_at "u"
  refine ⟨x, y, U, W, rfl, kx, hx, ky, hy, hT, fun l r e1 e2 hw hw2 hl hl2 p qs H1 s1 hp hq t => ?_, n⟩
  have qq := q l r e1 e2 hw hw2 hl hl2
  subst e1 e2
  walk_at "v"
  refine ⟨by decide, fun D hD1 => ?_⟩
  have hD : H D = none := s1.free hD1
  walk_at "u"
  refine g_while (fun m σ' H' => ∃ (d a : Nat) (v : Option V) (xs : List V) (os : List (Option (List V))), σ' = [some (.str (mkS l)), some (.str (mkS r)), some (.ref p), some (.ref D), some (.int (d : Nat)), some (.int (a : Nat)), v] ∧ m = d + a ∧ d ≤ l.length ∧ a ≤ r.length ∧
    Same H1 H' ∧ H' D = some (.lst xs) ∧ xs.length = os.length ∧ (∀ (i : Nat) x o, xs[i]? = some x → os[i]? = some o → Cg H' x o) ∧ ledR l os = some (mid l r d a) ∧ os.length + Lv.lev (l.take d) (r.take a) = Lv.lev l r)
    _ ⟨l.length, r.length, none, [], [], rfl, rfl, Nat.le_refl _, Nat.le_refl _, Same.new hD1, upd_same, rfl, fun i x o h => by simp at h, by rw [mid, List.take_length, List.drop_length, List.append_nil]; rfl, by rw [List.take_length, List.take_length]; simp⟩ ?_
  rintro m σ' H' ⟨d, a, v, xs, os, rfl, rfl, hd, ha, s0, eD, hlen, hc, hled, hn⟩
  have t' := t.same s0
  have most := Lv.lev_most l r
  have fin : ¬ 0 < d → ¬ 0 < a → Q (.ref D) H' := fun h1 h2 => by
    have d0 : d = 0 := by omega
    have a0 : a = 0 := by omega
    subst d0 a0
    have e0 : mid l r 0 0 = r := by simp [mid]
    rw [e0] at hled
    have e1 : Lv.lev (l.take 0) (r.take 0) = 0 := by simp [Lv.lev_nil_left]
    exact qq D xs os H' (s1.trans s0) hD eD hlen hc hled (by omega)
  -- a turn with a change v of members ys to the word mid d' a'
  have step : ∀ (ys : List V) (d' a' : Nat) (T0 : Addr) (v : Option V), H' T0 = none → d' + a' < d + a → d' ≤ l.length → a' ≤ r.length → (∀ v ∈ ys, Sh v ∧ ∃ T, Kn H' v T) → stepR (mid l r d a) (some ys) = some (mid l r d' a') → Lv.lev (l.take d') (r.take a') + 1 = Lv.lev (l.take d) (r.take a) →
    ∃ m', m' < d + a ∧ ∃ (d2 a2 : Nat) (v2 : Option V) (xs2 : List V) (os2 : List (Option (List V))), [some (V.str (mkS l)), some (.str (mkS r)), some (.ref p), some (.ref D), some (.int (d' : Nat)), some (.int (a' : Nat)), v] = [some (.str (mkS l)), some (.str (mkS r)), some (.ref p), some (.ref D), some (.int (d2 : Nat)), some (.int (a2 : Nat)), v2] ∧ m' = d2 + a2 ∧ d2 ≤ l.length ∧ a2 ≤ r.length ∧
    Same H1 (upd (upd H' T0 (.tup ys)) D (.lst (xs ++ [.ref T0]))) ∧ upd (upd H' T0 (.tup ys)) D (.lst (xs ++ [.ref T0])) D = some (.lst xs2) ∧ xs2.length = os2.length ∧ (∀ (i : Nat) x o, xs2[i]? = some x → os2[i]? = some o → Cg (upd (upd H' T0 (.tup ys)) D (.lst (xs ++ [.ref T0]))) x o) ∧ ledR l os2 = some (mid l r d2 a2) ∧ os2.length + Lv.lev (l.take d2) (r.take a2) = Lv.lev l r := by
    intro ys d' a' T0 v hT0 hlt hd' ha' hk hst hlv
    have nT : T0 ≠ D := (ne_of_none eD hT0).symm
    have kp : ∀ x u, H' x = some u → x ≠ D → upd (upd H' T0 (.tup ys)) D (.lst (xs ++ [.ref T0])) x = some u := fun x u e n => by rw [upd_ne n, upd_ne (ne_of_none e hT0)]; exact e
    have kk : ∀ {v : V} {Tn : String}, Kn H' v Tn → Kn (upd (upd H' T0 (.tup ys)) D (.lst (xs ++ [.ref T0]))) v Tn := fun {v Tn} k => by
      cases k with
      | non => exact .non
      | bl b => exact .bl b
      | int i => exact .int i
      | str z => exact .str z
      | @lst x zs e =>
        by_cases hx : x = D
        · subst hx; exact .lst upd_same
        · exact .lst (kp _ _ e hx)
      | @tup x zs e => exact .tup (kp _ _ e (fun z => by rw [z, eD] at e; cases e))
      | @dK x zs e => exact .dK (kp _ _ e (fun z => by rw [z, eD] at e; cases e))
    refine ⟨d' + a', hlt, d', a', v, xs ++ [.ref T0], os ++ [some ys], rfl, rfl, hd', ha', Same.wr (s0.trans (Same.new hT0)) hD1, upd_same, by rw [List.length_append, List.length_append, hlen]; rfl, ?_, ?_, ?_⟩
    · intro i x o hx ho
      by_cases hi : i < xs.length
      · rw [List.getElem?_append_left hi] at hx
        rw [List.getElem?_append_left (by omega)] at ho
        have c := hc i x o hx ho
        cases c with
        | no k nn => exact .no (kk k) nn
        | @tup z zs e k => exact .tup (kp _ _ e (fun q => by rw [q, eD] at e; cases e)) fun v hv => let ⟨y, Tn, k1⟩ := k v hv; ⟨y, Tn, kk k1⟩
      · rw [List.getElem?_append_right (by omega)] at hx ho
        have e9 : i - xs.length = 0 := by
          have := (List.getElem?_eq_some_iff.mp hx).1
          simp at this; omega
        rw [e9] at hx
        rw [show i - os.length = 0 by omega] at ho
        injection hx with hx
        injection ho with ho
        subst hx ho
        exact .tup (by rw [upd_ne nT]; exact upd_same) fun v hv => let ⟨y, Tn, k1⟩ := hk v hv; ⟨y, Tn, kk k1⟩
    · rw [ledR_app, hled]
      exact (ledR_one _ _).trans hst
    · rw [List.length_append, List.length_cons, List.length_nil]; omega
  refine g_testTo (b0 := decide (0 < d ∨ 0 < a)) (fun QB qb => ?_) ?_
  · walk_at "u"
    refine g_if (fun h1 => ?_) (fun h1 => ?_)
    · rw [decide_eq_true (.inl (by omega))] at qb; exact qb
    · walk_at "u"
      have e : decide ((a : Int) > 0) = decide (0 < d ∨ 0 < a) := by rw [Bool.eq_iff_iff, decide_eq_true_iff, decide_eq_true_iff]; omega
      rw [e]; exact qb
  refine g_if (fun hz => ?_) (fun hz => ?_)
  rotate_left
  · walk_at "u"
    exact fin (by omega) (by omega)
  refine g_turn ?_
  obtain ⟨qd, _, gd, ed⟩ := t'.at (i := d) hd
  refine g_cut (fun σ3 H3 => σ3 = [some (.str (mkS l)), some (.str (mkS r)), some (.ref p), some (.ref D), some (.int (d : Nat)), some (.int (a : Nat)), some (.int ((Lv.lev (l.take d) (r.take a) : Nat)))] ∧ H3 = H') ?_ ?_
  · walk_at "u"
    refine g_ixL (SqL.of t'.top) (at_of rfl gd) ?_
    walk_at "u"
    refine g_ixL (SqL.of ed) (at_of rfl (row_at ha)) ?_
    walk_at "u"
    exact ⟨rfl, rfl⟩
  rintro σ3 H3 ⟨rfl, rfl⟩
  have ed1 : 0 < d → ((d : Int) - 1) = ((d - 1 : Nat) : Int) := fun h => by omega
  have ea1 : 0 < a → ((a : Int) - 1) = ((a - 1 : Nat) : Int) := fun h => by omega
  have gl : ∀ h : 0 < d, atI l ((d : Int) - 1) = some (l[d - 1]'(by omega)) := fun h => by rw [ed1 h]; exact atI_nat (List.getElem?_eq_getElem (show d - 1 < l.length by omega))
  have gr : ∀ h : 0 < a, atI r ((a : Int) - 1) = some (r[a - 1]'(by omega)) := fun h => by rw [ea1 h]; exact atI_nat (List.getElem?_eq_getElem (show a - 1 < r.length by omega))
  refine g_ifS (g_testTo (b0 := decide (∃ (h1 : 0 < d) (h2 : 0 < a), l[d - 1]'(by omega) = r[a - 1]'(by omega))) (fun QB qb => ?_) ?_)
  · walk_at "u"
    refine g_if (fun h1 => ?_) (fun h1 => ?_)
    · walk_at "u"
      refine g_if (fun h2 => ?_) (fun h2 => ?_)
      · have h1 : 0 < d := by omega
        have h2 : 0 < a := by omega
        walk_at "u"
        refine g_ixS (by omega) (gl h1) ?_
        walk_at "u"
        refine g_ixS (by omega) (gr h2) ?_
        walk_at "u"
        have e : decide ([l[d - 1]'(by omega)] = [r[a - 1]'(by omega)]) = decide (∃ (h1 : 0 < d) (h2 : 0 < a), l[d - 1]'(by omega) = r[a - 1]'(by omega)) := by
          rw [Bool.eq_iff_iff, decide_eq_true_iff, decide_eq_true_iff]
          exact ⟨fun z => ⟨h1, h2, by injection z⟩, fun ⟨_, _, z⟩ => by rw [z]⟩
        rw [e]; exact qb
      · rw [decide_eq_false (fun ⟨_, z, _⟩ => h2 (by omega))] at qb; exact qb
    · rw [decide_eq_false (fun ⟨z, _⟩ => h1 (by omega))] at qb; exact qb
  refine g_if (fun h => ?_) (fun h => ?_)
  · obtain ⟨h1, h2, h3⟩ := h
    walk_at "u"
    rw [ed1 h1, ea1 h2]
    exact ⟨_, by omega, d - 1, a - 1, _, xs, os, rfl, rfl, by omega, by omega, s0, eD, hlen, hc, by rw [mid_same h1 h2 hd ha h3]; exact hled, by rw [← lev_same_at h1 h2 hd ha h3]; exact hn⟩
  refine g_ifS (g_testTo (b0 := decide (0 < d ∧ 0 < a ∧ Lv.lev (l.take (d - 1)) (r.take (a - 1)) + 1 = Lv.lev (l.take d) (r.take a))) (fun QB qb => ?_) ?_)
  · walk_at "u"
    refine g_if (fun h1 => ?_) (fun h1 => ?_)
    · walk_at "u"
      refine g_if (fun h2 => ?_) (fun h2 => ?_)
      · have h1 : 0 < d := by omega
        have h2 : 0 < a := by omega
        obtain ⟨q1, _, g1, e1⟩ := t'.at (i := d - 1) (by omega)
        walk_at "u"
        rw [ed1 h1]
        refine g_ixL (SqL.of t'.top) (at_of rfl g1) ?_
        walk_at "u"
        rw [ea1 h2]
        refine g_ixL (SqL.of e1) (at_of rfl (row_at (by omega))) ?_
        walk_at "u"
        have e : decide (((Lv.lev (l.take (d - 1)) (r.take (a - 1)) : Nat) : Int) + 1 = ((Lv.lev (l.take d) (r.take a) : Nat) : Int)) = decide (0 < d ∧ 0 < a ∧ Lv.lev (l.take (d - 1)) (r.take (a - 1)) + 1 = Lv.lev (l.take d) (r.take a)) := by
          rw [Bool.eq_iff_iff, decide_eq_true_iff, decide_eq_true_iff]; omega
        rw [e]; exact qb
      · rw [decide_eq_false (by omega)] at qb; exact qb
    · rw [decide_eq_false (by omega)] at qb; exact qb
  refine g_if (fun h' => ?_) (fun h' => ?_)
  · obtain ⟨h1, h2, h3⟩ := h'
    have h4 : ¬ l[d - 1]'(by omega) = r[a - 1]'(by omega) := fun z => h ⟨h1, h2, z⟩
    have hl3 : Lc (r[a - 1]'(by omega)) := hw2 _ (List.getElem_mem _)
    walk_at "u"
    refine ⟨Or.inl ⟨rfl, _, SqL.of eD⟩, ?_⟩
    walk_at "v"
    refine g_ixS (by omega) (gr h2) ?_
    walk_at "u"
    refine ⟨by show 3 ≤ sizeLine; decide, fun T0 hT0 => ?_⟩
    walk_at "u"
    refine g_append (by rw [upd_ne (ne_of_none eD hT0)]; exact eD) (by omega) ?_
    walk_at "u"
    rw [ed1 h1, ea1 h2]
    refine step _ (d - 1) (a - 1) T0 _ hT0 (by omega) (by omega) (by omega) ?_ ?_ h3
    · intro v hv
      simp only [List.mem_cons, List.not_mem_nil, or_false] at hv
      rcases hv with rfl | rfl | rfl
      · exact ⟨by show (mkS _).length ≤ 1000; decide +kernel, _, .str _⟩
      · exact ⟨trivial, _, .int _⟩
      · exact ⟨by show (mkS _).length ≤ 1000; rw [mkS_len]; show 1 ≤ 1000; decide, _, .str _⟩
    · refine (stepR_turn (letOf_one hl3) (fun z => absurd z.1 (by decide +kernel)) ⟨rfl, by omega, by rw [mid_len hd ha]; omega, ?_⟩).trans ?_
      · rw [show ((d - 1 : Nat) : Int).toNat = d - 1 from rfl, mid_get h1 hd]
        intro z; injection z with z; exact h4 z
      · rw [show ((d - 1 : Nat) : Int).toNat = d - 1 from rfl, mid_turn h1 h2 hd ha]
  refine g_ifS (g_testTo (b0 := decide (0 < d ∧ Lv.lev (l.take (d - 1)) (r.take a) + 1 = Lv.lev (l.take d) (r.take a))) (fun QB qb => ?_) ?_)
  · walk_at "u"
    refine g_if (fun h1 => ?_) (fun h1 => ?_)
    · have h1 : 0 < d := by omega
      obtain ⟨q1, _, g1, e1⟩ := t'.at (i := d - 1) (by omega)
      walk_at "u"
      rw [ed1 h1]
      refine g_ixL (SqL.of t'.top) (at_of rfl g1) ?_
      walk_at "u"
      refine g_ixL (SqL.of e1) (at_of rfl (row_at ha)) ?_
      walk_at "u"
      have e : decide (((Lv.lev (l.take (d - 1)) (r.take a) : Nat) : Int) + 1 = ((Lv.lev (l.take d) (r.take a) : Nat) : Int)) = decide (0 < d ∧ Lv.lev (l.take (d - 1)) (r.take a) + 1 = Lv.lev (l.take d) (r.take a)) := by
        rw [Bool.eq_iff_iff, decide_eq_true_iff, decide_eq_true_iff]; omega
      rw [e]; exact qb
    · rw [decide_eq_false (by omega)] at qb; exact qb
  refine g_if (fun h3 => ?_) (fun h3 => ?_)
  · obtain ⟨h1, h3⟩ := h3
    walk_at "u"
    refine ⟨Or.inl ⟨rfl, _, SqL.of eD⟩, ?_⟩
    walk_at "v"
    refine ⟨by show 2 ≤ sizeLine; decide, fun T0 hT0 => ?_⟩
    walk_at "u"
    refine g_append (by rw [upd_ne (ne_of_none eD hT0)]; exact eD) (by omega) ?_
    walk_at "u"
    rw [ed1 h1]
    refine step _ (d - 1) a T0 _ hT0 (by omega) (by omega) (by omega) ?_ ?_ h3
    · intro v hv
      simp only [List.mem_cons, List.not_mem_nil, or_false] at hv
      rcases hv with rfl | rfl
      · exact ⟨by show (mkS _).length ≤ 1000; decide +kernel, _, .str _⟩
      · exact ⟨trivial, _, .int _⟩
    · refine (stepR_cut ⟨rfl, by omega, by rw [mid_len hd ha]; omega⟩).trans ?_
      rw [show ((d - 1 : Nat) : Int).toNat = d - 1 from rfl, mid_cut h1 hd]
  have h2 : 0 < a := by
    rcases Nat.eq_zero_or_pos a with z | z
    · exfalso
      subst z
      have h1 : 0 < d := by omega
      apply h3
      refine ⟨h1, ?_⟩
      rw [List.take_zero, Lv.lev_nil_right, Lv.lev_nil_right, List.length_take, List.length_take]; omega
    · exact z
  have hl3 : Lc (r[a - 1]'(by omega)) := hw2 _ (List.getElem_mem _)
  have hv : Lv.lev (l.take d) (r.take (a - 1)) + 1 = Lv.lev (l.take d) (r.take a) := by
    rcases Nat.eq_zero_or_pos d with z | h1
    · subst z
      rw [List.take_zero, Lv.lev_nil_left, Lv.lev_nil_left, List.length_take, List.length_take]; omega
    · exact lev_last h1 h2 hd ha (fun z => h ⟨h1, h2, z⟩) (fun z => h' ⟨h1, h2, z⟩) (fun z => h3 ⟨h1, z⟩)
  walk_at "u"
  refine ⟨Or.inl ⟨rfl, _, SqL.of eD⟩, ?_⟩
  walk_at "v"
  refine g_ixS (by omega) (gr h2) ?_
  walk_at "u"
  refine ⟨by show 3 ≤ sizeLine; decide, fun T0 hT0 => ?_⟩
  walk_at "u"
  refine g_append (by rw [upd_ne (ne_of_none eD hT0)]; exact eD) (by omega) ?_
  walk_at "u"
  rw [ea1 h2]
  refine step _ d (a - 1) T0 _ hT0 (by omega) (by omega) (by omega) ?_ ?_ hv
  · intro v hv
    simp only [List.mem_cons, List.not_mem_nil, or_false] at hv
    rcases hv with rfl | rfl | rfl
    · exact ⟨by show (mkS _).length ≤ 1000; decide +kernel, _, .str _⟩
    · exact ⟨trivial, _, .int _⟩
    · exact ⟨by show (mkS _).length ≤ 1000; rw [mkS_len]; show 1 ≤ 1000; decide, _, .str _⟩
  · refine (stepR_put (letOf_one hl3) ⟨rfl, by omega, by rw [mid_len hd ha]; omega⟩).trans ?_
    rw [show ((d : Nat) : Int).toNat = d from rfl, mid_put h2 hd ha]
theorem d_law_at (A : At K mg "_law_at" s_law_at) (bi : Bi mg) : Dd P w K mg base CX0 1 "_law_at" ["_law_script", "_law_k"] (spAt K) := by
  have sc := sc_law_at
  refine A.ok sc (fun _ _ _ _ _ _ us hl => match us, hl with | [_, _], _ => rfl) (fun vs H Q E h => ?_) (fun f cdv A outer s H vs Q E hr h => ?_)
  · obtain ⟨_, _, _, rfl, _⟩ := h; rfl
  have hu := hu_of hr
  obtain ⟨a, ns, k, rfl, hS, q⟩ := h
  refine ⟨_, (pss_cons (ps_if (pt_cmpR op_lt (pv 1) (pe_callB c_lenL (by rfl) bi.n_len (by decide +kernel) (pa_cons (pv 0) pa_nil)) (nomark _)) (pss_one (ps_ret (pe_ix ix_list (pv 0) (pv 1) (fun _ _ => rfl)))) pss_nil)
  (pss_one (ps_ret pe_int))), ?_⟩
  refine g_start (show L2.start _ _ = [some _, some _] from rfl) ?_
  walk_at "v"
  refine g_if (fun h => ?_) (fun h => ?_)
  · rw [List.length_map] at h
    have hk : k < ns.length := by omega
    walk_at "v"
    refine g_ixL hS (at_of rfl (by rw [List.getElem?_map, List.getElem?_eq_getElem hk]; rfl)) ?_
    have e : atF ns k = ns[k] := by simp [atF, hk]
    rw [← e]; exact q
  · walk_at "v"
    rw [List.length_map] at h
    have e : atF ns k = 0 := by
      have hk : ¬ k < ns.length := by omega
      simp [atF, hk]
    rw [e] at q; exact q
theorem d_law_letter (A : At K mg "_law_letter" s_law_letter) (bi : Bi mg) : Dd P w K mg base CX0 1 "_law_letter" ["_law_mode", "_law_number"] (spLetter) := by
  have sc := sc_law_letter
  refine A.ok sc (fun _ _ _ _ _ _ us hl => match us, hl with | [_, _], _ => rfl) (fun vs H Q E h => ?_) (fun f cdv A outer s H vs Q E hr h => ?_)
  · obtain ⟨_, _, rfl, _⟩ := h; rfl
  have hu := hu_of hr
  obtain ⟨m, n, rfl, q⟩ := h
  refine ⟨_, (pss_cons (ps_set (i := 2) sc.nd rfl (Or.inl rfl) (pe_ix ix_list (pe_lst (pa_cons pe_int (pa_cons pe_int (pa_cons pe_int pa_nil)))) (pe_op op_mod (pv 0) pe_int) (fun _ _ => rfl)))
  (pss_cons (ps_set (i := 3) sc.nd rfl (Or.inl rfl) (pe_ix ix_list (pe_lst (pa_cons pe_int (pa_cons pe_int (pa_cons pe_int (pa_cons pe_int pa_nil))))) (pe_op op_mod (pe_op op_fdiv (pv 0) pe_int) pe_int) (fun _ _ => rfl)))
  (pss_one (ps_ret (pe_ix ix_str pe_str (pe_op op_mod (pe_op op_add (pe_op op_fdiv (pv 0) pe_int) (pe_op op_mul (pe_op op_mod (pv 1) (pv 2)) (pv 3))) pe_int) (fun _ _ => rfl)))))), ?_⟩
  refine g_start (show L2.start _ _ = [some _, some _, none, none] from rfl) ?_
  walk_at "v"
  refine ⟨by decide, fun p hp => ?_⟩
  walk_at "v"
  obtain ⟨a, ha, ea⟩ := menuI [2, 3, 26] (i := m % 3) (by omega) (by show m % 3 < 3; omega)
  refine g_ixL (SqL.of upd_same) ea ?_
  walk_at "v"
  refine ⟨by decide, fun p' hp' => ?_⟩
  walk_at "v"
  obtain ⟨b, hb, eb⟩ := menuI [1, 3, 5, 7] (i := m / 78 % 4) (by omega) (by show m / 78 % 4 < 4; omega)
  refine g_ixL (SqL.of upd_same) eb ?_
  have ha0 : 0 < a ∧ a ≤ 26 := by simp at ha; omega
  have hn0 : 0 ≤ n % a := Int.emod_nonneg _ (by omega)
  have hn1 : n % a < a := Int.emod_lt_of_pos _ (by omega)
  walk_at "v"
  obtain ⟨c, hc, hl⟩ := alpha_at (i := (m / 3 + n % a * b) % 26) (by omega) (by omega)
  refine g_ixS (by decide) hc ?_
  exact q c _ hl ((Same.new hp).trans (Same.new hp'))
theorem d_law_word (A : At K mg "_law_word" s_law_word) (bi : Bi mg) (d_law_letter : Dd P w K mg base CX0 1 "_law_letter" ["_law_mode", "_law_number"] (spLetter)) : Dd P w K mg base CX0 2 "_law_word" ["_law_mode", "_law_cell", "_law_most"] (spWord) := by
  have sc := sc_law_word
  refine A.ok sc (fun _ _ _ _ _ _ us hl => match us, hl with | [_, _, _], _ => rfl) (fun vs H Q E h => ?_) (fun f cdv A outer s H vs Q E hr h => ?_)
  · obtain ⟨_, _, _, rfl, _⟩ := h; rfl
  have hu := hu_of hr
  obtain ⟨m, n, most, rfl, hm, q⟩ := h
  refine ⟨_, (pss_cons (ps_set (i := 3) sc.nd rfl (Or.inl rfl) (pe_op op_mod (pv 1) (pe_op op_add (pv 2) pe_int)))
  (pss_cons (ps_set (i := 1) sc.nd rfl (Or.inl rfl) (pe_op op_fdiv (pv 1) (pe_op op_add (pv 2) pe_int)))
  (pss_cons (ps_set (i := 4) sc.nd rfl (Or.inl rfl) pe_str)
  (pss_cons (ps_for PassesOwn.never rfl (pi_range1 (by rfl) bi.n_range (pa_cons (pv 3) pa_nil)) (pg_name (i := 5) sc.nd rfl (Or.inl rfl)) (pss_cons (ps_set (i := 4) sc.nd rfl (Or.inl rfl) (pe_op o_addS (pv 4) (pe_callD d_law_letter (hr.mono (by decide)) rfl pass0 (pa_cons (pv 0) (pa_cons (pe_op op_add (pv 1) (pe_op op_mul pe_int (pv 5))) pa_nil)))))
  (pss_one (ps_set (i := 1) sc.nd rfl (Or.inl rfl) (pe_op op_fdiv (pv 1) pe_int)))))
  (pss_one (ps_ret (pv 4))))))), ?_⟩
  refine g_start (show L2.start _ _ = [some _, some _, some _, none, none, none] from rfl) ?_
  have b1 : 0 ≤ n % ((most : Int) + 1) := Int.emod_nonneg _ (by omega)
  have b2 : n % ((most : Int) + 1) < (most : Int) + 1 := Int.emod_lt_of_pos _ (by omega)
  walk_at "v"
  refine g_rng (by omega) (by omega) (fun i σ' H' => ∃ (x : Int) (l : List Nat) (kv : Option V), σ' = [some (.int m), some (.int x), some (.int most), some (.int (n % (most + 1))), some (.str (mkS l)), kv] ∧ Wd l ∧ l.length = i ∧ Same H H') ⟨_, [], none, rfl, Wd.nil, rfl, Same.refl _⟩ ?_ ?_
  · rintro i σ' H' hi ⟨x, l, kv, rfl, hw, hl, s0⟩
    walk_at "v"
    refine ⟨_, _, rfl, fun c H2 hc s1 => ?_⟩
    walk_at "v"
    exact ⟨_, _, _, rfl, hw.app (Wd.one hc), by rw [List.length_append, hl]; rfl, s0.trans s1⟩
  · rintro σ' H' ⟨x, l, kv, rfl, hw, hl, s0⟩
    walk_at "v"
    exact q l H' hw (by omega) s0
theorem d_law_whole (A : At K mg "_law_whole" s_law_whole) (bi : Bi mg) : Dd P w K mg base CX0 1 "_law_whole" ["_law_thing"] (spWhole) := by
  have sc := sc_law_whole
  refine A.ok sc (fun _ _ _ _ _ _ us hl => match us, hl with | [_], _ => rfl) (fun vs H Q E h => ?_) (fun f cdv A outer s H vs Q E hr h => ?_)
  · obtain ⟨_, _, rfl, _⟩ := h; rfl
  have hu := hu_of hr
  obtain ⟨x, T, rfl, k, q⟩ := h
  refine ⟨_, (pss_one (ps_ret (pe_and (pe_callB call_isK (by rfl) bi.n_isinstance (by decide +kernel) (pa_cons (pv 0) (pa_cons (pe_bltn (v := .ty "int") (by rfl) bi.n_int (by decide +kernel) rfl) pa_nil))) (pe_one (pe_not (pe_callB call_isK (by rfl) bi.n_isinstance (by decide +kernel) (pa_cons (pv 0) (pa_cons (pe_bltn (v := .ty "bool") (by rfl) bi.n_bool (by decide +kernel) rfl) pa_nil)))))))), ?_⟩
  refine g_start (show L2.start _ _ = [some _] from rfl) ?_
  walk_at "v"
  rw [← whole_is k] at q
  refine g_ifB (fun h => ?_) (fun h => ?_)
  · rw [h] at q
    walk_at "v"
    exact q
  · rw [h] at q
    exact q
theorem d_law_bent (A : At K mg "_law_bent" s_law_bent) (bi : Bi mg) (d_law_letter : Dd P w K mg base CX0 1 "_law_letter" ["_law_mode", "_law_number"] (spLetter)) : Dd P w K mg base CX0 2 "_law_bent" ["_law_mode", "_law_word_here", "_law_cell"] (spBent) := by
  have sc := sc_law_bent
  refine A.ok sc (fun _ _ _ _ _ _ us hl => match us, hl with | [_, _, _], _ => rfl) (fun vs H Q E h => ?_) (fun f cdv A outer s H vs Q E hr h => ?_)
  · obtain ⟨_, _, _, rfl, _⟩ := h; rfl
  have hu := hu_of hr
  obtain ⟨m, n, l, rfl, hw, hl, q⟩ := h
  refine ⟨_, (pss_cons (ps_for PassesOwn.never rfl (pi_range1 (by rfl) bi.n_range (pa_cons (pe_op op_mod (pv 2) pe_int) pa_nil)) (pg_name (i := 3) sc.nd rfl (Or.inl rfl)) (pss_cons (ps_set (i := 4) sc.nd rfl (Or.inl rfl) (pe_op op_add (pe_op op_fdiv (pv 2) pe_int) (pe_op op_mul pe_int (pv 3))))
  (pss_cons (ps_set (i := 5) sc.nd rfl (Or.inl rfl) (pe_op op_mod (pe_op op_fdiv (pv 4) pe_int) (pe_op op_add (pe_callB c_lenS (by rfl) bi.n_len (by decide +kernel) (pa_cons (pv 1) pa_nil)) pe_int)))
  (pss_cons (ps_set (i := 6) sc.nd rfl (Or.inl rfl) (pe_callD d_law_letter (hr.mono (by decide)) rfl pass0 (pa_cons (pv 0) (pa_cons (pe_op op_fdiv (pv 4) pe_int) pa_nil))))
  (Evl.pss_cut (ps_if (PW.pt (pw_and (pt_cmpR op_eq (pe_op op_mod (pv 4) pe_int) pe_int (nomark _)) (pw_and1 (pt_cmpR op_lt (pe_callB c_lenS (by rfl) bi.n_len (by decide +kernel) (pa_cons (pv 1) pa_nil)) pe_int (nomark _))))) (pss_one (ps_set (i := 1) sc.nd rfl (Or.inl rfl) (pe_op o_addS (pe_op o_addS (pe_slice sl_str (pv 1) po_none (po_some (pv 5))) (pv 6)) (pe_slice sl_str (pv 1) (po_some (pv 5)) po_none)))) (pss_one (ps_if (pt_cmpR op_eq (pe_op op_mod (pv 4) pe_int) pe_int (nomark _)) (pss_one (ps_set (i := 1) sc.nd rfl (Or.inl rfl) (pe_op o_addS (pe_slice sl_str (pv 1) po_none (po_some (pv 5))) (pe_slice sl_str (pv 1) (po_some (pe_op op_add (pv 5) pe_int)) po_none)))) (pss_one (ps_if (pt_cmpR op_lt (pv 5) (pe_callB c_lenS (by rfl) bi.n_len (by decide +kernel) (pa_cons (pv 1) pa_nil)) (nomark _)) (pss_one (ps_set (i := 1) sc.nd rfl (Or.inl rfl) (pe_op o_addS (pe_op o_addS (pe_slice sl_str (pv 1) po_none (po_some (pv 5))) (pv 6)) (pe_slice sl_str (pv 1) (po_some (pe_op op_add (pv 5) pe_int)) po_none)))) pss_nil)))))
  (pss_one (ps_set (i := 2) sc.nd rfl (Or.inl rfl) (pe_op op_fdiv (pv 2) pe_int))))))))
  (pss_one (ps_ret (pv 1)))), ?_⟩
  refine g_start (show L2.start _ _ = [some _, some _, some _, none, none, none, none] from rfl) ?_
  have b1 : 0 ≤ n % 4 := Int.emod_nonneg _ (by omega)
  have b2 : n % 4 < 4 := Int.emod_lt_of_pos _ (by omega)
  walk_at "u"
  refine g_rng (by omega) (by omega) (fun i σ' H' => ∃ (x : Int) (l' : List Nat) (v1 v2 v3 v4 : Option V), σ' = [some (.int m), some (.str (mkS l')), some (.int x), v1, v2, v3, v4] ∧ Wd l' ∧ l'.length ≤ 24 ∧ Same H H') ⟨n, l, none, none, none, none, rfl, hw, hl, Same.refl _⟩ ?_ ?_
  · rintro i σ' H' hi ⟨x, l', v1, v2, v3, v4, rfl, hw', hl', s0⟩
    have a0 : 0 ≤ (x / 4 + 11 * (i : Int)) / 3 % ((l'.length : Int) + 1) := Int.emod_nonneg _ (by omega)
    have a1 : (x / 4 + 11 * (i : Int)) / 3 % ((l'.length : Int) + 1) < (l'.length : Int) + 1 := Int.emod_lt_of_pos _ (by omega)
    walk_at "u"
    refine ⟨_, _, rfl, fun c H2 hc s1 => ?_⟩
    have s2 := s0.trans s1
    walk_at "u"
    refine g_cut (fun σ3 H3 => ∃ (l3 : List Nat) (w1 w2 w3 w4 : Option V), σ3 = [some (.int m), some (.str (mkS l3)), some (.int x), w1, w2, w3, w4] ∧ Wd l3 ∧ l3.length ≤ 24 ∧ Same H H3) ?_ ?_
    · have fin : ∀ (k1 k2 : Nat) (mid : List Nat), Wd mid → (l'.take k1 ++ mid ++ l'.drop k2).length ≤ 24 → ∃ (l3 : List Nat) (w1 w2 w3 w4 : Option V), [some (V.int m), some (.str (mkS (l'.take k1 ++ mid ++ l'.drop k2))), some (.int x), some (.int i), some (.int (x / 4 + 11 * (i : Int))), some (.int ((x / 4 + 11 * (i : Int)) / 3 % ((l'.length : Int) + 1))), some (.str (mkS [c]))] = [some (.int m), some (.str (mkS l3)), some (.int x), w1, w2, w3, w4] ∧ Wd l3 ∧ l3.length ≤ 24 ∧ Same H H2 :=
        fun k1 k2 mid hm hz => ⟨_, _, _, _, _, rfl, ((hw'.take k1).app hm).app (hw'.drop k2), hz, s2⟩
      have fin2 : ∀ (k1 k2 : Nat), (l'.take k1 ++ l'.drop k2).length ≤ 24 → ∃ (l3 : List Nat) (w1 w2 w3 w4 : Option V), [some (V.int m), some (.str (mkS (l'.take k1 ++ l'.drop k2))), some (.int x), some (.int i), some (.int (x / 4 + 11 * (i : Int))), some (.int ((x / 4 + 11 * (i : Int)) / 3 % ((l'.length : Int) + 1))), some (.str (mkS [c]))] = [some (.int m), some (.str (mkS l3)), some (.int x), w1, w2, w3, w4] ∧ Wd l3 ∧ l3.length ≤ 24 ∧ Same H H2 :=
        fun k1 k2 hz => ⟨_, _, _, _, _, rfl, (hw'.take k1).app (hw'.drop k2), hz, s2⟩
      have same : ∃ (l3 : List Nat) (w1 w2 w3 w4 : Option V), [some (V.int m), some (.str (mkS l')), some (.int x), some (.int i), some (.int (x / 4 + 11 * (i : Int))), some (.int ((x / 4 + 11 * (i : Int)) / 3 % ((l'.length : Int) + 1))), some (.str (mkS [c]))] = [some (.int m), some (.str (mkS l3)), some (.int x), w1, w2, w3, w4] ∧ Wd l3 ∧ l3.length ≤ 24 ∧ Same H H2 :=
        ⟨_, _, _, _, _, rfl, hw', hl', s2⟩
      have w1 := Wd.one hc
      walk_at "dfs"
      all_goals first
        | exact fin _ _ [c] w1 (by simp only [List.length_append, List.length_take, List.length_drop, List.length_cons, List.length_nil]; omega)
        | exact fin2 _ _ (by simp only [List.length_append, List.length_take, List.length_drop]; omega)
        | exact same
    · rintro σ3 H3 ⟨l3, w1, w2, w3, w4, rfl, hw3, hl3, s3⟩
      walk_at "u"
      exact ⟨_, _, _, _, _, _, rfl, hw3, hl3, s3⟩
  · rintro σ' H' ⟨x, l', v1, v2, v3, v4, rfl, hw', hl', s0⟩
    walk_at "u"
    exact q l' H' hw' hl' s0
theorem d_law_two (A : At K mg "_law_two" s_law_two) (bi : Bi mg) (d_law_at : Dd P w K mg base CX0 1 "_law_at" ["_law_script", "_law_k"] (spAt K)) (d_law_word : Dd P w K mg base CX0 2 "_law_word" ["_law_mode", "_law_cell", "_law_most"] (spWord)) (d_law_bent : Dd P w K mg base CX0 2 "_law_bent" ["_law_mode", "_law_word_here", "_law_cell"] (spBent)) : Dd P w K mg base CX0 3 "_law_two" ["_law_script"] (spTwo K) := by
  have sc := sc_law_two
  refine A.ok sc (fun _ _ _ _ _ _ us hl => match us, hl with | [_], _ => rfl) (fun vs H Q E h => ?_) (fun f cdv A outer s H vs Q E hr h => ?_)
  · obtain ⟨_, _, rfl, _⟩ := h; rfl
  have hu := hu_of hr
  obtain ⟨a, ns, rfl, hS, q⟩ := h
  refine ⟨_, (pss_cons (ps_set (i := 1) sc.nd rfl (Or.inl rfl) (pe_callD d_law_at (hr.mono (by decide)) rfl pass0 (pa_cons (pv 0) (pa_cons pe_int pa_nil))))
  (pss_cons (ps_set (i := 2) sc.nd rfl (Or.inl rfl) pe_int)
  (Evl.pss_cut (ps_if (pt_cmpR op_eq (pe_op op_mod (pe_callD d_law_at (hr.mono (by decide)) rfl pass0 (pa_cons (pv 0) (pa_cons pe_int pa_nil))) pe_int) pe_int (nomark _)) (pss_one (ps_set (i := 2) sc.nd rfl (Or.inl rfl) pe_int)) pss_nil)
  (pss_cons (ps_set (i := 3) sc.nd rfl (Or.inl rfl) (pe_callD d_law_word (hr.mono (by decide)) rfl pass0 (pa_cons (pv 1) (pa_cons (pe_callD d_law_at (hr.mono (by decide)) rfl pass0 (pa_cons (pv 0) (pa_cons pe_int pa_nil))) (pa_cons (pv 2) pa_nil)))))
  (pss_cons (ps_set (i := 4) sc.nd rfl (Or.inl rfl) (pe_callD d_law_word (hr.mono (by decide)) rfl pass0 (pa_cons (pv 1) (pa_cons (pe_callD d_law_at (hr.mono (by decide)) rfl pass0 (pa_cons (pv 0) (pa_cons pe_int pa_nil))) (pa_cons (pv 2) pa_nil)))))
  (Evl.pss_cut (ps_if (pt_cmpR op_gt (pe_op op_mod (pe_op op_fdiv (pe_callD d_law_at (hr.mono (by decide)) rfl pass0 (pa_cons (pv 0) (pa_cons pe_int pa_nil))) pe_int) pe_int) pe_int (nomark _)) (pss_one (ps_set (i := 4) sc.nd rfl (Or.inl rfl) (pe_callD d_law_bent (hr.mono (by decide)) rfl pass0 (pa_cons (pv 1) (pa_cons (pe_callD d_law_bent (hr.mono (by decide)) rfl pass0 (pa_cons (pv 1) (pa_cons (pv 3) (pa_cons (pe_callD d_law_at (hr.mono (by decide)) rfl pass0 (pa_cons (pv 0) (pa_cons pe_int pa_nil))) pa_nil)))) (pa_cons (pe_callD d_law_at (hr.mono (by decide)) rfl pass0 (pa_cons (pv 0) (pa_cons pe_int pa_nil))) pa_nil)))))) pss_nil)
  (pss_one (ps_ret (pe_tup (pa_cons (pv 3) (pa_cons (pv 4) pa_nil))))))))))), ?_⟩
  refine g_start (show L2.start _ _ = [some _, none, none, none, none] from rfl) ?_
  walk_at "u"
  refine ⟨a, ns, 0, rfl, hS, ?_⟩
  walk_at "u"
  refine g_cut (fun σ' H' => ∃ mo : Nat, σ' = [some (.ref a), some (.int (atF ns 0)), some (.int (mo : Int)), none, none] ∧ mo ≤ 24 ∧ H' = H) ?_ ?_
  · walk_at "u"
    refine ⟨a, ns, 1, rfl, hS, ?_⟩
    walk_at "u"
    refine g_if (fun _ => ?_) (fun _ => ?_)
    · walk_at "u"
      exact ⟨24, rfl, by decide, rfl⟩
    · walk_at "u"
      exact ⟨8, rfl, by decide, rfl⟩
  · rintro σ' H0 ⟨mo, rfl, hmo, rfl⟩
    walk_at "u"
    refine ⟨a, ns, 2, rfl, hS, ?_⟩
    walk_at "u"
    refine ⟨_, _, mo, rfl, by omega, fun l H1 hw hl s1 => ?_⟩
    walk_at "u"
    refine ⟨a, ns, 3, rfl, s1.seq hS, ?_⟩
    walk_at "u"
    refine ⟨_, _, mo, rfl, by omega, fun r H2 hw2 hl2 s2 => ?_⟩
    walk_at "u"
    refine g_cut (fun σ' H' => ∃ r : List Nat, σ' = [some (.ref a), some (.int (atF ns 0)), some (.int (mo : Int)), some (.str (mkS l)), some (.str (mkS r))] ∧ Wd r ∧ r.length ≤ 24 ∧ Same H0 H') ?_ ?_
    · walk_at "u"
      refine ⟨a, ns, 1, rfl, (s1.trans s2).seq hS, ?_⟩
      walk_at "u"
      refine g_if (fun _ => ?_) (fun _ => ?_)
      · walk_at "u"
        refine ⟨a, ns, 3, rfl, (s1.trans s2).seq hS, ?_⟩
        walk_at "u"
        refine ⟨_, _, l, rfl, hw, by omega, fun l3 H3 hw3 hl3 s3 => ?_⟩
        walk_at "u"
        refine ⟨a, ns, 4, rfl, ((s1.trans s2).trans s3).seq hS, ?_⟩
        walk_at "u"
        refine ⟨_, _, l3, rfl, hw3, hl3, fun l4 H4 hw4 hl4 s4 => ?_⟩
        walk_at "u"
        exact ⟨l4, rfl, hw4, hl4, ((s1.trans s2).trans s3).trans s4⟩
      · walk_at "u"
        exact ⟨r, rfl, hw2, by omega, s1.trans s2⟩
    · rintro σ' H5 ⟨r, rfl, hwr, hlr, s5⟩
      walk_at "v"
      refine ⟨by show 2 ≤ sizeLine; decide, fun p hp => ?_⟩
      walk_at "u"
      exact q l r p _ hw hwr (by omega) hlr (s5.trans (Same.new hp)) upd_same
theorem d_law_next (A : At K mg "_law_next" s_law_next) (bi : Bi mg) : Dd P w K mg base CX0 1 "_law_next" ["_law_row", "_law_letter_here", "_law_word_here"] (spNext K) := by
  have sc := sc_law_next
  refine A.ok sc (fun _ _ _ _ _ _ us hl => match us, hl with | [_, _, _], _ => rfl) (fun vs H Q E h => ?_) (fun f cdv A outer s H vs Q E hr h => ?_)
  · obtain ⟨_, _, _, _, rfl, _⟩ := h; rfl
  have hu := hu_of hr
  obtain ⟨a, p, b, c, rfl, hS, hb, q⟩ := h
  refine ⟨_, (pss_cons (ps_set (i := 3) sc.nd rfl (Or.inl rfl) (pe_lst (pa_cons (pe_op op_add (pe_ix ix_list (pv 0) pe_int (fun _ _ => rfl)) pe_int) pa_nil)))
  (pss_cons (ps_for PassesOwn.never rfl (pi_range1 (by rfl) bi.n_range (pa_cons (pe_callB c_lenS (by rfl) bi.n_len (by decide +kernel) (pa_cons (pv 2) pa_nil)) pa_nil)) (pg_name (i := 4) sc.nd rfl (Or.inl rfl)) (pss_cons (ps_set (i := 5) sc.nd rfl (Or.inl rfl) pe_int)
  (Evl.pss_cut (ps_if (pt_cmpR op_eq (pe_ix ix_str (pv 2) (pv 4) (fun _ _ => rfl)) (pv 1) (nomark _)) (pss_one (ps_set (i := 5) sc.nd rfl (Or.inl rfl) pe_int)) pss_nil)
  (pss_one (ps_expr (pe_bm PySem.F.plainAttrs_list PySem.F.slot_list_append PySem.F.type_list_append mt_append (pv 3) (pa_cons (pe_callB (c_min3 rfl) (by rfl) bi.n_min (by decide +kernel) (pa_cons (pe_op op_add (pe_ix ix_list (pv 0) (pv 4) (fun _ _ => rfl)) (pv 5)) (pa_cons (pe_op op_add (pe_ix ix_list (pv 0) (pe_op op_add (pv 4) pe_int) (fun _ _ => rfl)) pe_int) (pa_cons (pe_op op_add (pe_ix ix_list (pv 3) (pv 4) (fun _ _ => rfl)) pe_int) pa_nil)))) pa_nil)))))))
  (pss_one (ps_ret (pv 3))))), ?_⟩
  refine g_start (show L2.start _ _ = [some _, some _, some _, none, none, none] from rfl) ?_
  walk_at "v"
  refine g_ixL hS (at_ofN (by decide) (rowV_get (row_zero p b))) ?_
  walk_at "u"
  refine ⟨by show 1 ≤ sizeLine; decide, fun D hD => ?_⟩
  walk_at "u"
  refine g_rng (by omega) (by omega) (fun i σ' H' => ∃ v1 v2, σ' = [some (.ref a), some (.str (mkS [c])), some (.str (mkS b)), some (.ref D), v1, v2] ∧ Same H H' ∧ H' D = some (.lst (rowV ((Lv.row (p ++ [c]) b).take (i + 1))))) ⟨none, none, rfl, Same.new hD, by rw [row_first]; exact upd_same⟩ ?_ ?_
  · rintro i σ' H' hi ⟨v1, v2, rfl, s0, hD'⟩
    have hi2 : i < b.length := by omega
    obtain ⟨y, hy⟩ : ∃ y, b[i]? = some y := ⟨b[i], List.getElem?_eq_getElem hi2⟩
    walk_at "u"
    refine g_cut (fun σ3 H3 => σ3 = [some (.ref a), some (.str (mkS [c])), some (.str (mkS b)), some (.ref D), some (.int (i : Int)), some (.int ((if y = c then 0 else 1 : Nat)))] ∧ H3 = H') ?_ ?_
    · walk_at "u"
      refine g_ixS (by omega) (at_ofN (by omega) hy) ?_
      walk_at "u"
      refine g_if (fun h => ?_) (fun h => ?_)
      · have e : y = c := by injection h
        walk_at "u"
        exact ⟨by rw [if_pos e]; rfl, rfl⟩
      · have e : ¬ y = c := fun z => h (by rw [z])
        walk_at "u"
        exact ⟨by rw [if_neg e]; rfl, rfl⟩
    · rintro σ3 H3 ⟨rfl, rfl⟩
      walk_at "u"
      refine ⟨Or.inl ⟨rfl, _, SqL.of hD'⟩, ?_⟩
      walk_at "u"
      refine g_ixL (s0.seq hS) (at_ofN (by omega) (rowV_get (Lv.row_get (by omega)))) ?_
      walk_at "u"
      refine g_ixL (s0.seq hS) (at_ofN (by omega) (by rw [show ((i : Int) + 1).toNat = i + 1 from rfl]; exact rowV_get (Lv.row_get (by omega)))) ?_
      walk_at "u"
      refine g_ixL (SqL.of hD') (at_ofN (by omega) (rowV_get (by rw [List.getElem?_take_of_lt (by omega)]; exact Lv.row_get (by omega)))) ?_
      walk_at "u"
      refine g_min3 (Int.natCast_add _ _).symm (Int.natCast_add _ 1).symm (Int.natCast_add _ 1).symm ?_
      walk_at "u"
      refine g_append hD' (by rw [rowV_len, List.length_take]; omega) ?_
      walk_at "u"
      refine ⟨_, _, rfl, Same.wr s0 hD, ?_⟩
      rw [upd_same, row_step hy]
      simp [rowV]
  · rintro σ' H' ⟨v1, v2, rfl, s0, hD'⟩
    walk_at "u"
    refine q D H' s0 hD ?_
    rw [hD', List.take_of_length_le (by rw [Lv.row_len]; omega)]
theorem d_law_far (A : At K mg "_law_far" s_law_far) (bi : Bi mg) (d_law_next : Dd P w K mg base CX0 1 "_law_next" ["_law_row", "_law_letter_here", "_law_word_here"] (spNext K)) : Dd P w K mg base CX0 2 "_law_far" ["_law_one", "_law_other"] (spFar) := by
  have sc := sc_law_far
  refine A.ok sc (fun _ _ _ _ _ _ us hl => match us, hl with | [_, _], _ => rfl) (fun vs H Q E h => ?_) (fun f cdv A outer s H vs Q E hr h => ?_)
  · obtain ⟨_, _, rfl, _⟩ := h; rfl
  have hu := hu_of hr
  obtain ⟨l, r, rfl, hl, hr2, q⟩ := h
  refine ⟨_, (pss_cons (ps_set (i := 2) sc.nd rfl (Or.inl rfl) (pe_listRg rfl (by rfl) bi.n_list (prg_1 (by rfl) bi.n_range (pe_op op_add (pe_callB c_lenS (by rfl) bi.n_len (by decide +kernel) (pa_cons (pv 1) pa_nil)) pe_int))))
  (pss_cons (ps_for PassesOwn.never rfl (pi_str (pv 0)) (pg_name (i := 3) sc.nd rfl (Or.inl rfl)) (pss_one (ps_set (i := 2) sc.nd rfl (Or.inl rfl) (pe_callD d_law_next (hr.mono (by decide)) rfl pass0 (pa_cons (pv 2) (pa_cons (pv 3) (pa_cons (pv 1) pa_nil)))))))
  (pss_one (ps_ret (pe_ix ix_list (pv 2) (pe_un un_neg pe_int) (fun _ _ => rfl)))))), ?_⟩
  refine g_start (show L2.start _ _ = [some _, some _, none, none] from rfl) ?_
  walk_at "u"
  refine g_listRg ?_
  walk_at "u"
  refine ⟨RgOk.of_le (by omega) (by omega) (by omega) (by omega), fun D hD => ?_⟩
  rw [rg_row]
  walk_at "u"
  refine g_txt rfl (fun i σ' H' => ∃ D' v, σ' = [some (.str (mkS l)), some (.str (mkS r)), some (.ref D'), v] ∧ Same H H' ∧ H' D' = some (.lst (rowV (Lv.row (l.take i) r)))) ⟨D, none, rfl, Same.new hD, upd_same⟩ ?_ ?_
  · rintro i c σ' H' hc ⟨D', v, rfl, s0, hD'⟩
    walk_at "u"
    refine ⟨D', l.take i, r, c, rfl, SqL.of hD', by omega, fun D2 H2 s2 _ hD2 => ?_⟩
    walk_at "u"
    refine ⟨D2, _, rfl, s0.trans s2, ?_⟩
    rw [List.take_succ, hc]
    exact hD2
  · rintro σ' H' ⟨D', v, rfl, s0, hD'⟩
    rw [List.take_length, row_last] at hD'
    walk_at "u"
    refine g_ixL (SqL.of hD') (atI_last _ _) ?_
    exact q H' s0
theorem d_law_step (A : At K mg "_law_step" s_law_step) (bi : Bi mg) (d_law_whole : Dd P w K mg base CX0 1 "_law_whole" ["_law_thing"] (spWhole)) : Dd P w K mg base CX0 2 "_law_step" ["_law_text", "_law_change"] (spStep) := by
  have sc := sc_law_step
  refine A.ok sc (fun _ _ _ _ _ _ us hl => match us, hl with | [_, _], _ => rfl) (fun vs H Q E h => ?_) (fun f cdv A outer s H vs Q E hr h => ?_)
  · obtain ⟨_, _, _, rfl, _⟩ := h; rfl
  have hu := hu_of hr
  obtain ⟨l, x, o, rfl, hl, hc, q⟩ := h
  refine ⟨_, (pss_cons (ps_if (PW.pt (pw_or (pt_not (pt_val (pe_callB call_isK (by rfl) bi.n_isinstance (by decide +kernel) (pa_cons (pv 1) (pa_cons (pe_bltn (v := .ty "tuple") (by rfl) bi.n_tuple (by decide +kernel) rfl) pa_nil))))) (pw_or (pt_cmpR op_lt (pe_callB c_lenL (by rfl) bi.n_len (by decide +kernel) (pa_cons (pv 1) pa_nil)) pe_int (nomark _)) (pw_or (pt_cmpR op_gt (pe_callB c_lenL (by rfl) bi.n_len (by decide +kernel) (pa_cons (pv 1) pa_nil)) pe_int (nomark _)) (pw_or1 (pt_not (pt_val (pe_callD d_law_whole (hr.mono (by decide)) rfl pass0 (pa_cons (pe_ix ix_tup (pv 1) pe_int (fun _ _ => rfl)) pa_nil))))))))) (pss_one (ps_ret pe_non)) pss_nil)
  (pss_cons (ps_set (i := 2) sc.nd rfl (Or.inl rfl) (pe_ix ix_tup (pv 1) pe_int (fun _ _ => rfl)))
  (pss_cons (ps_if (pt_cmpR op_eq (pe_callB c_lenL (by rfl) bi.n_len (by decide +kernel) (pa_cons (pv 1) pa_nil)) pe_int (nomark _)) (pss_cons (ps_if (PW.pt (pw_or (pt_cmpR (o_neK hu) (pe_ix ix_tup (pv 1) pe_int (fun _ _ => rfl)) pe_str (nomark _)) (pw_or1 (pt_not (pt_chain op_le op_lt pe_int (pv 2) (pe_callB c_lenS (by rfl) bi.n_len (by decide +kernel) (pa_cons (pv 0) pa_nil))))))) (pss_one (ps_ret pe_non)) pss_nil)
  (pss_one (ps_ret (pe_op o_addS (pe_slice sl_str (pv 0) po_none (po_some (pv 2))) (pe_slice sl_str (pv 0) (po_some (pe_op op_add (pv 2) pe_int)) po_none))))) pss_nil)
  (pss_cons (ps_set (i := 3) sc.nd rfl (Or.inl rfl) (pe_ix ix_tup (pv 1) pe_int (fun _ _ => rfl)))
  (pss_cons (ps_if (PW.pt (pw_or (pt_not (pt_val (pe_callB call_isK (by rfl) bi.n_isinstance (by decide +kernel) (pa_cons (pv 3) (pa_cons (pe_bltn (v := .ty "str") (by rfl) bi.n_str (by decide +kernel) rfl) pa_nil))))) (pw_or (pt_cmpR op_ne (pe_callB c_lenS (by rfl) bi.n_len (by decide +kernel) (pa_cons (pv 3) pa_nil)) pe_int (nomark _)) (pw_or1 (pt_cmpR o_notInS (pv 3) pe_str rfl))))) (pss_one (ps_ret pe_non)) pss_nil)
  (pss_cons (ps_if (PW.pt (pw_and (pt_cmpR (o_eqK hu) (pe_ix ix_tup (pv 1) pe_int (fun _ _ => rfl)) pe_str (nomark _)) (pw_and1 (pt_chain op_le op_le pe_int (pv 2) (pe_callB c_lenS (by rfl) bi.n_len (by decide +kernel) (pa_cons (pv 0) pa_nil)))))) (pss_one (ps_ret (pe_op o_addS (pe_op o_addS (pe_slice sl_str (pv 0) po_none (po_some (pv 2))) (pv 3)) (pe_slice sl_str (pv 0) (po_some (pv 2)) po_none)))) pss_nil)
  (pss_cons (ps_if (PW.pt (pw_and (pt_cmpR (o_eqK hu) (pe_ix ix_tup (pv 1) pe_int (fun _ _ => rfl)) pe_str (nomark _)) (pw_and (pt_chain op_le op_lt pe_int (pv 2) (pe_callB c_lenS (by rfl) bi.n_len (by decide +kernel) (pa_cons (pv 0) pa_nil))) (pw_and1 (pt_cmpR op_ne (pe_ix ix_str (pv 0) (pv 2) (fun _ _ => rfl)) (pv 3) (nomark _)))))) (pss_one (ps_ret (pe_op o_addS (pe_op o_addS (pe_slice sl_str (pv 0) po_none (po_some (pv 2))) (pv 3)) (pe_slice sl_str (pv 0) (po_some (pe_op op_add (pv 2) pe_int)) po_none)))) pss_nil)
  (pss_one (ps_ret pe_non))))))))), ?_⟩
  refine g_start (show L2.start _ _ = [some _, some _, none, none] from rfl) ?_
  cases hc with
  | @no x T k n =>
    have e : isK T "tuple" = false := by simp [isK, n]
    walk_at "v"
    exact q
  | @tup p xs e k =>
    have kp : Kn H (.ref p) "tuple" := .tup e
    have sT : SqT K H p xs := SqT.of e
    walk_at "v"
    rcases xs with _ | ⟨a, _ | ⟨b, _ | ⟨c, _ | ⟨d, r⟩⟩⟩⟩
    · walk_at "vi"
      walk_at "v"
      exact q
    · walk_at "vi"
      walk_at "v"
      exact q
    · obtain ⟨_, Ta, ka⟩ := k a (by simp)
      obtain ⟨_, Tb, kb⟩ := k b (by simp)
      walk_at "vi"
      walk_at "v"
      walk_at "vi"
      walk_at "v"
      refine ⟨_, _, rfl, kb, ?_⟩
      cases hb : isIntV b with
      | false =>
        walk_at "v"
        rw [stepR_two hb] at q
        exact q
      | true =>
        cases kb with
        | int i =>
          walk_at "v"
          walk_at "vi"
          walk_at "v"
          refine g_ifN (fun h => ?_) (fun h => ?_)
          · walk_at "v"
            rw [stepR_cutN (fun z => h z.1)] at q
            exact q
          · walk_at "v"
            refine g_if (fun h1 => ?_) (fun h1 => ?_)
            · walk_at "v"
              refine g_ifN (fun h2 => ?_) (fun h2 => ?_)
              · walk_at "v"
                rw [stepR_cutN (fun z => h2 z.2.2)] at q
                exact q
              · walk_at "v"
                rw [stepR_cut ⟨h, h1, h2⟩] at q
                have e1 : (i + 1).toNat = i.toNat + 1 := by omega
                rw [e1]
                exact q
            · walk_at "v"
              rw [stepR_cutN (fun z => h1 z.2.1)] at q
              exact q
        | _ => cases hb
    · obtain ⟨_, Ta, ka⟩ := k a (by simp)
      obtain ⟨_, Tb, kb⟩ := k b (by simp)
      obtain ⟨hz, Tc, kc⟩ := k c (by simp)
      walk_at "vi"
      walk_at "v"
      walk_at "vi"
      walk_at "v"
      refine ⟨_, _, rfl, kb, ?_⟩
      cases hb : isIntV b with
      | false =>
        walk_at "v"
        rw [stepR_tri hb] at q
        exact q
      | true =>
        cases kb with
        | int i =>
          walk_at "v"
          walk_at "vi"
          walk_at "v"
          by_cases hT : Tc = "str"
          · cases kc with
            | str z =>
              obtain ⟨z, rfl⟩ : ∃ y, z = mkS y := ⟨_, mkS_of z⟩
              have hz' : z.length ≤ 1000 := by rw [← mkS_len]; exact hz
              have e1 : isK "str" "str" = true := by decide
              rw [e1]
              walk_at "v"
              refine g_ifN (fun h1 => ?_) (fun h1 => ?_)
              · walk_at "v"
                rw [stepR_no (letOf_bad fun c hc => by rw [hc] at h1; exact absurd rfl h1)] at q
                exact q
              · obtain ⟨c, rfl⟩ : ∃ c, z = [c] := List.length_eq_one_iff.mp (by omega)
                walk_at "v"
                refine g_ifN (fun h2 => ?_) (fun h2 => ?_)
                · walk_at "v"
                  rw [alpha_mem] at h2
                  rw [stepR_no (letOf_bad fun d hd => by
                    have hd' : c = d := by injection hd
                    rw [← hd']; exact h2)] at q
                  exact q
                · rw [alpha_mem] at h2
                  have hy := letOf_one h2
                  have e2 : (i + 1).toNat = i.toNat + 1 ∨ i < 0 := by omega
                  by_cases hp : a = .str (mkS ("put" : Str).cps.toList) ∧ 0 ≤ i ∧ i ≤ l.length
                  · obtain ⟨rfl, h3, h4⟩ := id hp
                    rw [stepR_put hy hp] at q
                    walk_at "v"
                    refine g_if (fun _ => ?_) (fun z => absurd rfl z)
                    walk_at "v"
                    refine g_if (fun _ => ?_) (fun z => absurd h3 z)
                    walk_at "v"
                    refine g_if (fun _ => ?_) (fun z => absurd h4 z)
                    walk_at "v"
                    exact q
                  · by_cases ht : a = .str (mkS ("turn" : Str).cps.toList) ∧ 0 ≤ i ∧ i < l.length ∧ l[i.toNat]? ≠ some c
                    · obtain ⟨rfl, h3, h4, h5⟩ := id ht
                      rw [stepR_turn hy hp ht] at q
                      obtain ⟨d, hd⟩ : ∃ d, l[i.toNat]? = some d := ⟨_, List.getElem?_eq_getElem (by omega)⟩
                      have hd1 : atI l i = some d := at_ofN (by omega) hd
                      have hd2 : ¬ [d] = [c] := fun z => by
                        injection z with z
                        rw [hd, z] at h5
                        exact h5 rfl
                      have hn : ¬ V.str (mkS ("turn" : Str).cps.toList) = .str (mkS ("put" : Str).cps.toList) := by decide +kernel
                      walk_at "v"
                      refine g_if (fun z => absurd z hn) (fun _ => ?_)
                      walk_at "v"
                      refine g_if (fun _ => ?_) (fun z => absurd rfl z)
                      walk_at "v"
                      refine g_if (fun _ => ?_) (fun z => absurd h3 z)
                      walk_at "v"
                      refine g_if (fun _ => ?_) (fun z => absurd h4 z)
                      walk_at "v"
                      refine g_ixS (by omega) hd1 ?_
                      walk_at "v"
                      refine g_ifN (fun _ => ?_) (fun z => absurd z hd2)
                      walk_at "v"
                      rcases e2 with e2 | e2
                      · rw [e2]; exact q
                      · omega
                    · rw [stepR_else hy hp ht] at q
                      have q' : Q .non H := q
                      walk_at "dfs"
                      all_goals first
                        | (exfalso; apply hp; refine ⟨?_, ?_, ?_⟩ <;> assumption)
                        | skip
                      all_goals (have hi : i.toNat < l.length := by omega)
                      all_goals (refine g_ixS (by omega) (at_ofN (by omega) (List.getElem?_eq_getElem hi)) ?_)
                      all_goals walk_at "dfs"
                      all_goals (exfalso; apply ht; refine ⟨by assumption, by assumption, by assumption, fun z => ?_⟩)
                      all_goals (rename_i h9; apply h9; rw [List.getElem?_eq_getElem hi] at z; injection z with z; rw [z])
            | _ => exact absurd hT (by decide)
          · have en : isK Tc "str" = false := by simp [isK, hT]
            rw [en]
            walk_at "v"
            rw [stepR_no (letOf_kn kc hT)] at q
            exact q
        | _ => cases hb
    · walk_at "vi"
      walk_at "v"
      walk_at "vi"
      walk_at "v"
      rw [stepR_more] at q
      exact q
theorem d_law_led (A : At K mg "_law_led" s_law_led) (bi : Bi mg) (d_law_step : Dd P w K mg base CX0 2 "_law_step" ["_law_text", "_law_change"] (spStep)) : Dd P w K mg base CX0 3 "_law_led" ["_law_text", "_law_changes"] (spLawLed) := by
  have sc := sc_law_led
  refine A.ok sc (fun _ _ _ _ _ _ us hl => match us, hl with | [_, _], _ => rfl) (fun vs H Q E h => ?_) (fun f cdv A outer s H vs Q E hr h => ?_)
  · obtain ⟨_, _, _, _, rfl, _⟩ := h; rfl
  have hu := hu_of hr
  obtain ⟨l, p, xs, os, rfl, hl, hx, e, ho, hc, q⟩ := h
  refine ⟨_, (pss_cons (ps_if (pt_not (pt_val (pe_callB call_isK (by rfl) bi.n_isinstance (by decide +kernel) (pa_cons (pv 1) (pa_cons (pe_bltn (v := .ty "list") (by rfl) bi.n_list (by decide +kernel) rfl) pa_nil))))) (pss_one (ps_ret pe_non)) pss_nil)
  (pss_cons (ps_for PassesOwn.never rfl (pi_list (pv 1)) (pg_name (i := 2) sc.nd rfl (Or.inl rfl)) (pss_cons (ps_set (i := 0) sc.nd rfl (Or.inl rfl) (pe_callD d_law_step (hr.mono (by decide)) rfl pass0 (pa_cons (pv 0) (pa_cons (pv 2) pa_nil))))
  (pss_one (ps_if (pt_cmpR o_isN (pv 0) pe_non (nomark _)) (pss_one (ps_ret pe_non)) pss_nil))))
  (pss_one (ps_ret (pv 0))))), ?_⟩
  refine g_start (show L2.start _ _ = [some _, some _, none] from rfl) ?_
  have kp : Kn H (.ref p) "list" := .lst e
  walk_at "u"
  refine g_inL (SqL.of e) (fun i σ' H' => ∃ (z : List Nat) (v : Option V), σ' = [some (.str (mkS z)), some (.ref p), v] ∧ ledR l (os.take i) = some z ∧ H' = H) ⟨l, none, rfl, rfl, rfl⟩ (fun i σ' H' _ ⟨z, v, _, _, eH⟩ => by rw [eH]; exact SqL.of e) ?_ ?_
  · rintro i x σ' H' hi ⟨z, v, rfl, hz, rfl⟩
    obtain ⟨o, hoi⟩ : ∃ o, os[i]? = some o := ⟨os[i]'(by rw [← ho]; exact (List.getElem?_eq_some_iff.mp hi).1), List.getElem?_eq_getElem _⟩
    have hzl : z.length ≤ 400 := by have := ledR_len hz; rw [List.length_take] at this; omega
    walk_at "u"
    refine ⟨z, x, o, rfl, by omega, hc i x o hi hoi, ?_⟩
    walk_at "u"
    cases es : stepR z o with
    | none =>
      rw [ledR_stop hz hoi es] at q
      dsimp only [optV]
      refine g_if (fun _ => ?_) (fun w => absurd rfl w)
      walk_at "u"
      exact q
    | some z2 =>
      dsimp only [optV]
      refine g_if (fun w => by cases w) (fun _ => ?_)
      walk_at "u"
      exact ⟨z2, _, rfl, by rw [ledR_next hz hoi, es], rfl⟩
  · rintro σ' H' ⟨z, v, rfl, hz, rfl⟩
    rw [List.take_of_length_le (by omega)] at hz
    rw [hz] at q
    walk_at "u"
    exact q
theorem d_law (A : At K mg "law" s_law) (bi : Bi mg) {T : Addr} (d_law_two : Dd P w K mg base CX0 3 "_law_two" ["_law_script"] (spTwo K)) (d_distance : Dd P w K mg base CX0 4 "distance" ["one", "other"] (spDist T)) (d_law_whole : Dd P w K mg base CX0 1 "_law_whole" ["_law_thing"] (spWhole)) (d_law_far : Dd P w K mg base CX0 2 "_law_far" ["_law_one", "_law_other"] (spFar)) (d_way : Dd P w K mg base CX0 4 "way" ["one", "other"] (spWay T)) (d_law_led : Dd P w K mg base CX0 3 "_law_led" ["_law_text", "_law_changes"] (spLawLed)) : Dd P w K mg base CX0 5 "law" ["_law_script"] (spLawT K T) := by
  have sc := sc_law
  refine A.ok sc (fun _ _ _ _ _ _ us hl => match us, hl with | [_], _ => rfl) (fun vs H Q E h => ?_) (fun f cdv A outer s H vs Q E hr h => ?_)
  · obtain ⟨_, _, rfl, _⟩ := h; rfl
  have hu := hu_of hr
  obtain ⟨a, ns, rfl, hS, hn, hT, q⟩ := h
  refine ⟨_, (pss_cons (ps_asg (pe_callD d_law_two (hr.mono (by decide)) rfl pass0 (pa_cons (pv 0) pa_nil)) (pg_tup rfl (pgs_cons (pg_name (i := 1) sc.nd rfl (Or.inl rfl)) (pgs_cons (pg_name (i := 2) sc.nd rfl (Or.inl rfl)) pgs_nil))))
  (pss_cons (ps_set (i := 3) sc.nd rfl (Or.inl rfl) (pe_callD d_distance (hr.mono (by decide)) rfl pass0 (pa_cons (pv 1) (pa_cons (pv 2) pa_nil))))
  (pss_cons (ps_if (PW.pt (pw_or (pt_not (pt_val (pe_callD d_law_whole (hr.mono (by decide)) rfl pass0 (pa_cons (pv 3) pa_nil)))) (pw_or1 (pt_cmpR op_ne (pv 3) (pe_callD d_law_far (hr.mono (by decide)) rfl pass0 (pa_cons (pv 1) (pa_cons (pv 2) pa_nil))) (nomark _))))) (pss_one (ps_ret pe_bl)) pss_nil)
  (pss_cons (ps_for PassesOwn.never rfl (pi_range1 (by rfl) bi.n_range (pa_cons pe_int pa_nil)) (pg_name (i := 4) sc.nd rfl (Or.inl rfl)) (pss_cons (ps_set (i := 5) sc.nd rfl (Or.inl rfl) (pe_callD d_way (hr.mono (by decide)) rfl pass0 (pa_cons (pv 1) (pa_cons (pv 2) pa_nil))))
  (pss_cons (ps_if (PW.pt (pw_or (pt_cmpR op_ne (pe_callD d_law_led (hr.mono (by decide)) rfl pass0 (pa_cons (pv 1) (pa_cons (pv 5) pa_nil))) (pv 2) (nomark _)) (pw_or1 (pt_cmpR op_ne (pe_callB c_lenL (by rfl) bi.n_len (by decide +kernel) (pa_cons (pv 5) pa_nil)) (pv 3) (nomark _))))) (pss_one (ps_ret pe_bl)) pss_nil)
  (pss_one (ps_expr (pe_bm0 PySem.F.plainAttrs_list PySem.F.slot_list_clear PySem.F.type_list_clear mt_clear (pv 5)))))))
  (pss_one (ps_ret pe_bl)))))), ?_⟩
  refine g_start (show L2.start _ _ = [some _, none, none, none, none, none] from rfl) ?_
  walk_at "u"
  refine ⟨a, ns, rfl, hS, fun l r p H1 hw hw2 hl hl2 s1 e1 => ?_⟩
  walk_at "u"
  refine g_tup2 (SqT.of e1) ?_
  walk_at "u"
  refine ⟨l, r, rfl, hw, hw2, hl, hl2, hT.same s1, fun H2 s2 => ?_⟩
  walk_at "u"
  refine ⟨_, _, rfl, Kn.int _, ?_⟩
  walk_at "u"
  refine g_if (fun h => absurd h (by show ¬ (!true) = true; decide)) (fun _ => ?_)
  walk_at "u"
  refine ⟨l, r, rfl, by omega, by omega, fun H3 s3 => ?_⟩
  walk_at "u"
  refine g_ifN (fun h => absurd rfl h) (fun _ => ?_)
  have sa := s1.trans (s2.trans s3)
  walk_at "u"
  refine g_rng (by omega) (by omega) (fun i σ' H' => ∃ v1 v2, σ' = [some (.ref a), some (.str (mkS l)), some (.str (mkS r)), some (.int (Lv.lev l r : Nat)), v1, v2] ∧ Same H H') ⟨none, none, rfl, sa⟩ ?_ ?_
  · rintro i σ' H' hi ⟨v1, v2, rfl, s0⟩
    walk_at "u"
    refine ⟨l, r, rfl, hw, hw2, hl, hl2, hT.same s0, fun p xs os H3 s3 hp e3 ho hc hled hlen => ?_⟩
    have hm := Lv.lev_most l r
    have sL : SqL K H3 p xs := SqL.of e3
    walk_at "u"
    refine ⟨l, p, xs, os, rfl, by omega, by omega, e3, ho, hc, ?_⟩
    rw [hled]
    dsimp only [optV]
    walk_at "u"
    refine g_ifN (fun h => absurd rfl h) (fun _ => ?_)
    walk_at "u"
    refine g_ifN (fun h => absurd (by rw [ho, hlen]) h) (fun _ => ?_)
    walk_at "u"
    refine g_BM0 ?_
    walk_at "u"
    exact ⟨Or.inl ⟨rfl, _, sL⟩, p, xs, rfl, rfl, e3, _, _, rfl, Same.wr (s0.trans s3) (s0.free hp)⟩
  · rintro σ' H' ⟨v1, v2, rfl, s0⟩
    walk_at "u"
    exact q _ (hT.same s0)
end
section
def fnL : List He.DefD := [dOf "is_letter" s_is_letter, dOf "is_word" s_is_word, dOf "check_word" s_check_word, dOf "first_row" s_first_row, dOf "next_row" s_next_row, dOf "table" s_table, dOf "distance" s_distance, dOf "way" s_way, dOf "_law_at" s_law_at, dOf "_law_whole" s_law_whole, dOf "_law_letter" s_law_letter, dOf "_law_word" s_law_word, dOf "_law_bent" s_law_bent, dOf "_law_two" s_law_two, dOf "_law_step" s_law_step, dOf "_law_led" s_law_led, dOf "_law_next" s_law_next, dOf "_law_far" s_law_far, dOf "law" s_law]
def faL : List He.Fa := [.glo "is_letter", .glo "is_word", .glo "check_word", .glo "first_row", .glo "next_row", .glo "table", .glo "distance", .glo "way", .glo "_law_at", .glo "_law_whole", .glo "_law_letter", .glo "_law_word", .glo "_law_bent", .glo "_law_two", .glo "_law_step", .glo "_law_led", .glo "_law_next", .glo "_law_far", .glo "law", .glo "NearError", .glo "BadWord", .free "len", .free "range", .free "isinstance", .free "int", .free "bool", .free "str", .free "min", .free "list", .free "tuple", .free "all", .free "enumerate", .str "LETTERS" "abcdefghijklmnopqrstuvwxyz", .int "MOST_LETTERS" 24, .exc "BadWord"]
def tfL : List He.Defn := [("is_word", none)]
def exL (K : PySem.W.Frag) : Bool := true
abbrev R : PySem.W.OpenRow := PySem.W.OpenLaw.row PySem.Challenge.rw_nearword_k05_ways_and_distances
abbrev hkL : PySem.W.Hook := hookT 6 faL fnL tfL exL
def obL (s : PySem.W.SharedT) : He.AlD := obsTG 6 faL fnL tfL exL (HandSHeadRun.getT s)
theorem obL_eq (s : PySem.W.SharedT) : obL s = hkL.obs s.abs := obsTG_eq (HandSHeadRun.getT_eq s)
abbrev stepsL : Nat := 6000
abbrev lvlL : Nat := 5
abbrev looseL : List Str := ["NearError", "BadWord", "is_letter", "is_word", "check_word", "first_row", "next_row", "table", "distance", "way", "_law_at", "_law_whole", "_law_letter", "_law_word", "_law_bent", "_law_two", "_law_step", "_law_led", "_law_next", "_law_far", "LETTERS", "MOST_LETTERS"]
set_option maxHeartbeats 0 in
theorem runL (w : World) : HandSHeadRun.RunEq R (PySem.W.view R.prog [26]) hkL obL 6000 ["NearError", "BadWord", "is_letter", "is_word", "check_word", "first_row", "next_row", "table", "distance", "way", "_law_at", "_law_whole", "_law_letter", "_law_word", "_law_bent", "_law_two", "_law_step", "_law_led", "_law_next", "_law_far", "LETTERS", "MOST_LETTERS"] w := by
  intro os
  kernel_rfl
theorem factsL {P : Program} {w : World} {K : PySem.W.Frag} {h : Heap} {mg : Str → Option Value} {f : Addr} (X : K.In h) (G : h.Ns mainGlobals mg) (hfa : mg ("law" : Str) = some (.ref f)) (c : He.SaysD faL fnL K) (e : exL K = true) (hd : PySem.W.codeHdIn K (He.cT K ("is_word", none)).1 (He.cT K ("is_word", none)).2 = true) :
    ∃ fd : FuncData, (∀ (s : Shared) (v : Value), BindsTo s fd ⟨[v], []⟩ [("_law_script", v)]) ∧ ∀ base : Heap, K.In base → base.Ns mainGlobals mg → GxR.TabB base mg (He.cT K ("is_word", none)).1 (He.cT K ("is_word", none)).2 → FnOk P w K mg base CX0 5 f fd ["_law_script"] (spTab (spLawT K (He.cT K ("is_word", none)).2) (He.cT K ("is_word", none)).2) := by
  have A_is_letter : At K mg "is_letter" s_is_letter := at_of_says X G c 0 0 rfl rfl
  have A_is_word : At K mg "is_word" s_is_word := at_of_says X G c 1 1 rfl rfl
  have A_check_word : At K mg "check_word" s_check_word := at_of_says X G c 2 2 rfl rfl
  have A_first_row : At K mg "first_row" s_first_row := at_of_says X G c 3 3 rfl rfl
  have A_next_row : At K mg "next_row" s_next_row := at_of_says X G c 4 4 rfl rfl
  have A_table : At K mg "table" s_table := at_of_says X G c 5 5 rfl rfl
  have A_distance : At K mg "distance" s_distance := at_of_says X G c 6 6 rfl rfl
  have A_way : At K mg "way" s_way := at_of_says X G c 7 7 rfl rfl
  have A_law_at : At K mg "_law_at" s_law_at := at_of_says X G c 8 8 rfl rfl
  have A_law_whole : At K mg "_law_whole" s_law_whole := at_of_says X G c 9 9 rfl rfl
  have A_law_letter : At K mg "_law_letter" s_law_letter := at_of_says X G c 10 10 rfl rfl
  have A_law_word : At K mg "_law_word" s_law_word := at_of_says X G c 11 11 rfl rfl
  have A_law_bent : At K mg "_law_bent" s_law_bent := at_of_says X G c 12 12 rfl rfl
  have A_law_two : At K mg "_law_two" s_law_two := at_of_says X G c 13 13 rfl rfl
  have A_law_step : At K mg "_law_step" s_law_step := at_of_says X G c 14 14 rfl rfl
  have A_law_led : At K mg "_law_led" s_law_led := at_of_says X G c 15 15 rfl rfl
  have A_law_next : At K mg "_law_next" s_law_next := at_of_says X G c 16 16 rfl rfl
  have A_law_far : At K mg "_law_far" s_law_far := at_of_says X G c 17 17 rfl rfl
  have A_law : At K mg "law" s_law := at_of_says X G c 18 18 rfl rfl
  have ca : CodeAt K mg "is_word" (He.cT K ("is_word", none)).1 := codeAt_says X G c 1 1 rfl rfl
  have z_len : mg "len" = none := He.free_ok X G (c.fact 21 (f := .free "len") rfl)
  have z_range : mg "range" = none := He.free_ok X G (c.fact 22 (f := .free "range") rfl)
  have z_isinstance : mg "isinstance" = none := He.free_ok X G (c.fact 23 (f := .free "isinstance") rfl)
  have z_int : mg "int" = none := He.free_ok X G (c.fact 24 (f := .free "int") rfl)
  have z_bool : mg "bool" = none := He.free_ok X G (c.fact 25 (f := .free "bool") rfl)
  have z_str : mg "str" = none := He.free_ok X G (c.fact 26 (f := .free "str") rfl)
  have z_min : mg "min" = none := He.free_ok X G (c.fact 27 (f := .free "min") rfl)
  have z_list : mg "list" = none := He.free_ok X G (c.fact 28 (f := .free "list") rfl)
  have z_tuple : mg "tuple" = none := He.free_ok X G (c.fact 29 (f := .free "tuple") rfl)
  have z_all : mg "all" = none := He.free_ok X G (c.fact 30 (f := .free "all") rfl)
  have z_enumerate : mg "enumerate" = none := He.free_ok X G (c.fact 31 (f := .free "enumerate") rfl)
  have g_NearError : mg "NearError" = some (.ref (He.ga K "NearError")) := He.glo_ok X G (c.fact 19 (f := .glo "NearError") rfl)
  have g_BadWord : mg "BadWord" = some (.ref (He.ga K "BadWord")) := He.glo_ok X G (c.fact 20 (f := .glo "BadWord") rfl)
  obtain ⟨tL, cL⟩ := He.str_ok X G (c.fact 32 (f := .str "LETTERS" "abcdefghijklmnopqrstuvwxyz") rfl)
  have bi : Bi mg := ⟨z_len, z_range, z_isinstance, z_int, z_bool, z_str, z_min, z_list, z_tuple, z_all, z_enumerate, ⟨tL, by rw [cL, alpha_str]⟩, He.int_ok X G (c.fact 33 (f := .int "MOST_LETTERS" 24) rfl)⟩
  have xW : Xc K mg "BadWord" (He.ga K "BadWord") := xc_of X G c 34 20 rfl rfl
  obtain ⟨f0, fd, hm, F⟩ := A_law.ex
  have ef : f0 = f := by rw [hm] at hfa; injection hfa with z; injection z
  subst ef
  refine ⟨fd, fun s v => F.bindsA (ps := ["_law_script"]) (fun _ _ _ _ _ _ us hl => match us, hl with | [_], _ => rfl) s [v] rfl, fun base kb gb tb => ?_⟩
  have d_is_word := d_is_word (P := P) (w := w) (base := base) A_is_word bi ca tb (fun M => lr_is_letter A_is_letter bi M)
  have d_check_word := d_check_word (P := P) (w := w) (base := base) A_check_word bi xW d_is_word
  have d_first_row := d_first_row (P := P) (w := w) (base := base) A_first_row bi
  have d_next_row := d_next_row (P := P) (w := w) (base := base) A_next_row bi
  have d_table := d_table (P := P) (w := w) (base := base) A_table bi xW d_check_word d_first_row d_next_row
  have d_distance := d_distance (P := P) (w := w) (base := base) A_distance bi d_table
  have d_way := d_way (P := P) (w := w) (base := base) A_way bi d_table
  have d_law_at := d_law_at (P := P) (w := w) (base := base) A_law_at bi
  have d_law_letter := d_law_letter (P := P) (w := w) (base := base) A_law_letter bi
  have d_law_word := d_law_word (P := P) (w := w) (base := base) A_law_word bi d_law_letter
  have d_law_whole := d_law_whole (P := P) (w := w) (base := base) A_law_whole bi
  have d_law_bent := d_law_bent (P := P) (w := w) (base := base) A_law_bent bi d_law_letter
  have d_law_two := d_law_two (P := P) (w := w) (base := base) A_law_two bi d_law_at d_law_word d_law_bent
  have d_law_next := d_law_next (P := P) (w := w) (base := base) A_law_next bi
  have d_law_far := d_law_far (P := P) (w := w) (base := base) A_law_far bi d_law_next
  have d_law_step := d_law_step (P := P) (w := w) (base := base) A_law_step bi d_law_whole
  have d_law_led := d_law_led (P := P) (w := w) (base := base) A_law_led bi d_law_step
  have d_distance := d_distance.noX (sp' := spDist (He.cT K ("is_word", none)).2) (fun vs H Q E h => let ⟨l, r, e, hl, hr, h1, h2, hT, q⟩ := h; spTwoW_quiet l r e hl hr h1 h2 hT q)
  have d_way := d_way.noX (sp' := spWay (He.cT K ("is_word", none)).2) (fun vs H Q E h => let ⟨l, r, e, hl, hr, h1, h2, hT, q⟩ := h; spTwoW_quiet l r e hl hr h1 h2 hT q)
  exact retab ((d_law (P := P) (w := w) (base := base) A_law bi d_law_two d_distance d_law_whole d_law_far d_way d_law_led).at hm (fn_there F))
end
end My
open PySem PySem.W PySem.Calls PyProof.Rows
set_option maxRecDepth 100000 in
set_option maxHeartbeats 0 in
theorem PySem.Challenge.cw_nearword_k05_ways_and_distances_holds : PySem.Challenge.rw_nearword_k05_ways_and_distances.Holds := by
  w_on; o_law
  refine HandSHeadRun.head_any (r := OpenLaw.row PySem.Challenge.rw_nearword_k05_ways_and_distances) (q := view (OpenLaw.row PySem.Challenge.rw_nearword_k05_ways_and_distances).prog [26]) (H := My.hkL) (ob := My.obL) (M := My.stepsL) (loose := My.looseL) (d := HandSHeadRun.topDef (OpenLaw.row PySem.Challenge.rw_nearword_k05_ways_and_distances).prog 26) (kwd := []) My.obL_eq
    (by kernel_rfl) (fun s => by kernel_rfl) My.runL (by kernel_rfl) (by kernel_rfl) (by kernel_rfl) (by rfl) (by first | assumption | decide +kernel) (by decide +kernel) ⟨rfl, rfl, rfl, rfl, rfl, by decide +kernel⟩ ?hw ?hc
  case hw => w_witness2
  case hc =>
    refine LamX.walk_ofTsE (l := PySem.Challenge.rw_nearword_k05_ways_and_distances) (n := 63) (k := My.lvlL) (x := "_law_script") (CX := fun _ => L2.CX0) rfl (by decide) (by kernel_rfl) ⟨rfl, by decide, by decide⟩ ?F (fun _ _ _ _ _ z => z)
    intro w mg fa h Y G hmg0
    obtain ⟨K, KX, c, e, t⟩ := Y
    have hmg : mg ("law" : PySem.Str) = some (.ref fa) := by
      have e : (HandSHeadRun.topDef (OpenLaw.row PySem.Challenge.rw_nearword_k05_ways_and_distances).prog 26).name = ("law" : PySem.Str) := by kernel_rfl
      rw [← e]
      exact hmg0
    have tw := t ("is_word", none) (List.mem_singleton.mpr rfl)
    obtain ⟨fd, hb, hF⟩ := My.factsL (P := (PySem.Challenge.rw_nearword_k05_ways_and_distances).prog) (w := w) KX G hmg c e tw.hd
    exact ⟨K, KX, N0.lawAtT tw KX hb hF⟩
